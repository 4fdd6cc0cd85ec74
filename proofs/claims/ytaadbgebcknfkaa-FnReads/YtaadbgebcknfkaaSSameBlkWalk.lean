/-
  What spec.SameBlocks answers.
-/
import Derived.Test.YtaadbgebcknfkaaSameBlkWalk
import Derived.BigQuiet
import Derived.Deep.QuietTactic
import Derived.Deep.RegionHeld3
namespace Go.Proofs.Ytaadbgebcknfkaa
open Go.RowKit
set_option linter.unusedVariables false

theorem keepSB {W0 w' w1 : World} {b1 b2 p0 p1 p2 p3 p4 p5 p6 p7 p8 p9 q0 q1 q2 q3 q4 q5 q6 q7 q8 q9 : Nat} {v0 v1 v2 v3 v4 v5 v6 v7 v8 v9 v10 v11 v12 v13 v14 v15 v16 v17 v18 v19 : Value} (h1 : b1 < W0.heap.size) (h2 : b2 < W0.heap.size) (hS : Below W0.heap.size W0 w' ∧ w'.cell? ⟨b1, p0, none⟩ = some v0 ∧ w'.cell? ⟨b1, p1, none⟩ = some v1 ∧ w'.cell? ⟨b1, p2, none⟩ = some v2 ∧ w'.cell? ⟨b1, p3, none⟩ = some v3 ∧ w'.cell? ⟨b1, p4, none⟩ = some v4 ∧ w'.cell? ⟨b1, p5, none⟩ = some v5 ∧ w'.cell? ⟨b1, p6, none⟩ = some v6 ∧ w'.cell? ⟨b1, p7, none⟩ = some v7 ∧ w'.cell? ⟨b1, p8, none⟩ = some v8 ∧ w'.cell? ⟨b1, p9, none⟩ = some v9 ∧ w'.cell? ⟨b2, q0, none⟩ = some v10 ∧ w'.cell? ⟨b2, q1, none⟩ = some v11 ∧ w'.cell? ⟨b2, q2, none⟩ = some v12 ∧ w'.cell? ⟨b2, q3, none⟩ = some v13 ∧ w'.cell? ⟨b2, q4, none⟩ = some v14 ∧ w'.cell? ⟨b2, q5, none⟩ = some v15 ∧ w'.cell? ⟨b2, q6, none⟩ = some v16 ∧ w'.cell? ⟨b2, q7, none⟩ = some v17 ∧ w'.cell? ⟨b2, q8, none⟩ = some v18 ∧ w'.cell? ⟨b2, q9, none⟩ = some v19) (hb : Below w'.heap.size w' w1) : Below W0.heap.size W0 w1 ∧ w1.cell? ⟨b1, p0, none⟩ = some v0 ∧ w1.cell? ⟨b1, p1, none⟩ = some v1 ∧ w1.cell? ⟨b1, p2, none⟩ = some v2 ∧ w1.cell? ⟨b1, p3, none⟩ = some v3 ∧ w1.cell? ⟨b1, p4, none⟩ = some v4 ∧ w1.cell? ⟨b1, p5, none⟩ = some v5 ∧ w1.cell? ⟨b1, p6, none⟩ = some v6 ∧ w1.cell? ⟨b1, p7, none⟩ = some v7 ∧ w1.cell? ⟨b1, p8, none⟩ = some v8 ∧ w1.cell? ⟨b1, p9, none⟩ = some v9 ∧ w1.cell? ⟨b2, q0, none⟩ = some v10 ∧ w1.cell? ⟨b2, q1, none⟩ = some v11 ∧ w1.cell? ⟨b2, q2, none⟩ = some v12 ∧ w1.cell? ⟨b2, q3, none⟩ = some v13 ∧ w1.cell? ⟨b2, q4, none⟩ = some v14 ∧ w1.cell? ⟨b2, q5, none⟩ = some v15 ∧ w1.cell? ⟨b2, q6, none⟩ = some v16 ∧ w1.cell? ⟨b2, q7, none⟩ = some v17 ∧ w1.cell? ⟨b2, q8, none⟩ = some v18 ∧ w1.cell? ⟨b2, q9, none⟩ = some v19 := by
  obtain ⟨h, d0, d1, d2, d3, d4, d5, d6, d7, d8, d9, d10, d11, d12, d13, d14, d15, d16, d17, d18, d19⟩ := hS
  have hz := h.size
  exact ⟨h.trans (hb.mono hz), ((bcell hb).1 _ _ (by omega)).trans d0, ((bcell hb).1 _ _ (by omega)).trans d1, ((bcell hb).1 _ _ (by omega)).trans d2, ((bcell hb).1 _ _ (by omega)).trans d3, ((bcell hb).1 _ _ (by omega)).trans d4, ((bcell hb).1 _ _ (by omega)).trans d5, ((bcell hb).1 _ _ (by omega)).trans d6, ((bcell hb).1 _ _ (by omega)).trans d7, ((bcell hb).1 _ _ (by omega)).trans d8, ((bcell hb).1 _ _ (by omega)).trans d9, ((bcell hb).1 _ _ (by omega)).trans d10, ((bcell hb).1 _ _ (by omega)).trans d11, ((bcell hb).1 _ _ (by omega)).trans d12, ((bcell hb).1 _ _ (by omega)).trans d13, ((bcell hb).1 _ _ (by omega)).trans d14, ((bcell hb).1 _ _ (by omega)).trans d15, ((bcell hb).1 _ _ (by omega)).trans d16, ((bcell hb).1 _ _ (by omega)).trans d17, ((bcell hb).1 _ _ (by omega)).trans d18, ((bcell hb).1 _ _ (by omega)).trans d19⟩

set_option maxRecDepth 20000 in
set_option maxHeartbeats 4000000 in
theorem specSameBlocks_any (a b : Option Addr) (c d : Nat) (L M : List BlkA) (w : World) (h : BlksAt w a L) (h2 : BlksAt w b M) (hn : L.length ≤ 1048576) (hm : M.length ≤ 1048576) :
    Calls Try.prog 12 #[.slice a L.length c, .slice b M.length d] w fun r w' => r = .returned (.bool (sameBlks L M)) ∧ Below w.heap.size w w' := by
  by_cases hl : L.length = M.length
  · have hlb : ((L.length : Int) != (M.length : Int)) = false := by simp; omega
    have HL := hide hl
    clear hl
    go_enter Try.func12, Try.ntmps12
    go_wp2
    go_loopw [5] (fun i wr => ∃ k : Nat, k ≤ L.length ∧ i = .int .i64 k ∧ Hid (Below w.heap.size w wr) ∧ Hid (sameBlks L M = sameBlks (L.drop k) (M.drop k))) (fun i _ => L.length - (intOf i).toNat)
    case atStart => exact ⟨0, Nat.zero_le _, rfl, Below.refl _ _, by simp [Hid]⟩
    case round =>
      obtain ⟨k, hk, rfl, HB, HX⟩ := hrel
      by_cases hlt : k < L.length
      · have hlt2 : k < M.length := by have := unhide HL; omega
        have hst := sameBlks_drop hlt hlt2
        obtain ⟨b1, o1, rfl, hb1, hc1⟩ := h.at hlt
        obtain ⟨b2, o2, rfl, hb2, hc2⟩ := h2.at hlt2
        have hbw := unhide HB
        have hx := hc1 k hlt
        have hy := hc2 k hlt2
        generalize L[k] = x at *
        generalize M[k] = y at *
        have I1 := hide (hx.2.1.keep hbw.size fun _ _ hl => hbw.block _ hl)
        have I2 := hide (hy.2.1.keep hbw.size fun _ _ hl => hbw.block _ hl)
        have hnl := hx.2.2
        have z0 := hbw.size
        have zb1 : b1 < wr.heap.size := by omega
        have zb2 : b2 < wr.heap.size := by omega
        have x0 : wr.cell? ⟨b1, o1 + k * 10, none⟩ = some (.int .i64 x.b.k) := (hbw.cell (p := ⟨b1, o1 + k * 10, none⟩) hb1).trans (hx.1 0 _ rfl)
        have x1 : wr.cell? ⟨b1, o1 + k * 10 + 1, none⟩ = some (.int .i64 x.b.u) := (hbw.cell (p := ⟨b1, o1 + k * 10 + 1, none⟩) hb1).trans (hx.1 1 _ rfl)
        have x2 : wr.cell? ⟨b1, o1 + k * 10 + 2, none⟩ = some (.int .i64 x.b.i) := (hbw.cell (p := ⟨b1, o1 + k * 10 + 2, none⟩) hb1).trans (hx.1 2 _ rfl)
        have x3 : wr.cell? ⟨b1, o1 + k * 10 + 3, none⟩ = some (.int .i64 x.b.e) := (hbw.cell (p := ⟨b1, o1 + k * 10 + 3, none⟩) hb1).trans (hx.1 3 _ rfl)
        have x4 : wr.cell? ⟨b1, o1 + k * 10 + 4, none⟩ = some (.int .i64 x.b.nu) := (hbw.cell (p := ⟨b1, o1 + k * 10 + 4, none⟩) hb1).trans (hx.1 4 _ rfl)
        have x5 : wr.cell? ⟨b1, o1 + k * 10 + 5, none⟩ = some (.bool x.b.nd) := (hbw.cell (p := ⟨b1, o1 + k * 10 + 5, none⟩) hb1).trans (hx.1 5 _ rfl)
        have x6 : wr.cell? ⟨b1, o1 + k * 10 + 6, none⟩ = some (.int .i64 x.b.np) := (hbw.cell (p := ⟨b1, o1 + k * 10 + 6, none⟩) hb1).trans (hx.1 6 _ rfl)
        have x7 : wr.cell? ⟨b1, o1 + k * 10 + 7, none⟩ = some (.string x.b.nn) := (hbw.cell (p := ⟨b1, o1 + k * 10 + 7, none⟩) hb1).trans (hx.1 7 _ rfl)
        have x8 : wr.cell? ⟨b1, o1 + k * 10 + 8, none⟩ = some (.int .i64 x.b.ns) := (hbw.cell (p := ⟨b1, o1 + k * 10 + 8, none⟩) hb1).trans (hx.1 8 _ rfl)
        have x9 : wr.cell? ⟨b1, o1 + k * 10 + 9, none⟩ = some (.slice x.a x.b.nl.length x.c) := (hbw.cell (p := ⟨b1, o1 + k * 10 + 9, none⟩) hb1).trans (hx.1 9 _ rfl)
        have y0 : wr.cell? ⟨b2, o2 + k * 10, none⟩ = some (.int .i64 y.b.k) := (hbw.cell (p := ⟨b2, o2 + k * 10, none⟩) hb2).trans (hy.1 0 _ rfl)
        have y1 : wr.cell? ⟨b2, o2 + k * 10 + 1, none⟩ = some (.int .i64 y.b.u) := (hbw.cell (p := ⟨b2, o2 + k * 10 + 1, none⟩) hb2).trans (hy.1 1 _ rfl)
        have y2 : wr.cell? ⟨b2, o2 + k * 10 + 2, none⟩ = some (.int .i64 y.b.i) := (hbw.cell (p := ⟨b2, o2 + k * 10 + 2, none⟩) hb2).trans (hy.1 2 _ rfl)
        have y3 : wr.cell? ⟨b2, o2 + k * 10 + 3, none⟩ = some (.int .i64 y.b.e) := (hbw.cell (p := ⟨b2, o2 + k * 10 + 3, none⟩) hb2).trans (hy.1 3 _ rfl)
        have y4 : wr.cell? ⟨b2, o2 + k * 10 + 4, none⟩ = some (.int .i64 y.b.nu) := (hbw.cell (p := ⟨b2, o2 + k * 10 + 4, none⟩) hb2).trans (hy.1 4 _ rfl)
        have y5 : wr.cell? ⟨b2, o2 + k * 10 + 5, none⟩ = some (.bool y.b.nd) := (hbw.cell (p := ⟨b2, o2 + k * 10 + 5, none⟩) hb2).trans (hy.1 5 _ rfl)
        have y6 : wr.cell? ⟨b2, o2 + k * 10 + 6, none⟩ = some (.int .i64 y.b.np) := (hbw.cell (p := ⟨b2, o2 + k * 10 + 6, none⟩) hb2).trans (hy.1 6 _ rfl)
        have y7 : wr.cell? ⟨b2, o2 + k * 10 + 7, none⟩ = some (.string y.b.nn) := (hbw.cell (p := ⟨b2, o2 + k * 10 + 7, none⟩) hb2).trans (hy.1 7 _ rfl)
        have y8 : wr.cell? ⟨b2, o2 + k * 10 + 8, none⟩ = some (.int .i64 y.b.ns) := (hbw.cell (p := ⟨b2, o2 + k * 10 + 8, none⟩) hb2).trans (hy.1 8 _ rfl)
        have y9 : wr.cell? ⟨b2, o2 + k * 10 + 9, none⟩ = some (.slice y.a y.b.nl.length y.c) := (hbw.cell (p := ⟨b2, o2 + k * 10 + 9, none⟩) hb2).trans (hy.1 9 _ rfl)
        have HST := hide ((unhide HX).trans hst)
        clear hst hc1 hc2 hx hy h h2 hbw
        have hE1 : ∀ w : World, (binOp .neq 27 (.agg #[.int .i64 x.b.k, .int .i64 x.b.u, .int .i64 x.b.i, .int .i64 x.b.e]) (.agg #[.int .i64 y.b.k, .int .i64 y.b.u, .int .i64 y.b.i, .int .i64 y.b.e])).run Try.prog w = .ok (.bool (!sameHead x.b y.b)) w := fun w => by
          rw [run_neq_struct, eqlHead]; rfl
        have hE2 : ∀ w : World, (binOp .neq 29 (.agg #[.int .i64 x.b.nu, .bool x.b.nd, .int .i64 x.b.np, .string x.b.nn, .int .i64 x.b.ns]) (.agg #[.int .i64 y.b.nu, .bool y.b.nd, .int .i64 y.b.np, .string y.b.nn, .int .i64 y.b.ns])).run Try.prog w = .ok (.bool (!sameNode x.b y.b)) w := fun w => by
          rw [run_neq_struct, eqlNode]; rfl
        have hsb : sameBlk x.b y.b = (sameHead x.b y.b && sameNode x.b y.b && decide (x.b.nl = y.b.nl)) := rfl
        have HSB := hide hsb
        clear hsb
        generalize sameHead x.b y.b = s1 at *
        generalize sameNode x.b y.b = s2 at *
        cases s1
        · have HV : Hid (sameBlks L M = false) := by rw [Hid, unhide HST, unhide HSB]; rfl
          go_wp2_with fail
          go_quiet (fail)
          all_goals
            go_wp2_with fail
            go_ret
            exact ⟨ret_bool (unhide HV).symm, below_drewN (unhide HB) _⟩
        · cases s2
          · have HV : Hid (sameBlks L M = false) := by rw [Hid, unhide HST, unhide HSB]; rfl
            go_wp2_with fail
            go_quiet (fail)
            all_goals
              go_wp2_with fail
              go_ret
              exact ⟨ret_bool (unhide HV).symm, below_drewN (unhide HB) _⟩
          · have hD : (fun w' => Below wr.heap.size wr w' ∧ w'.cell? ⟨b1, o1 + k * 10, none⟩ = some (.int .i64 x.b.k) ∧ w'.cell? ⟨b1, o1 + k * 10 + 1, none⟩ = some (.int .i64 x.b.u) ∧ w'.cell? ⟨b1, o1 + k * 10 + 2, none⟩ = some (.int .i64 x.b.i) ∧ w'.cell? ⟨b1, o1 + k * 10 + 3, none⟩ = some (.int .i64 x.b.e) ∧ w'.cell? ⟨b1, o1 + k * 10 + 4, none⟩ = some (.int .i64 x.b.nu) ∧ w'.cell? ⟨b1, o1 + k * 10 + 5, none⟩ = some (.bool x.b.nd) ∧ w'.cell? ⟨b1, o1 + k * 10 + 6, none⟩ = some (.int .i64 x.b.np) ∧ w'.cell? ⟨b1, o1 + k * 10 + 7, none⟩ = some (.string x.b.nn) ∧ w'.cell? ⟨b1, o1 + k * 10 + 8, none⟩ = some (.int .i64 x.b.ns) ∧ w'.cell? ⟨b1, o1 + k * 10 + 9, none⟩ = some (.slice x.a x.b.nl.length x.c) ∧ w'.cell? ⟨b2, o2 + k * 10, none⟩ = some (.int .i64 y.b.k) ∧ w'.cell? ⟨b2, o2 + k * 10 + 1, none⟩ = some (.int .i64 y.b.u) ∧ w'.cell? ⟨b2, o2 + k * 10 + 2, none⟩ = some (.int .i64 y.b.i) ∧ w'.cell? ⟨b2, o2 + k * 10 + 3, none⟩ = some (.int .i64 y.b.e) ∧ w'.cell? ⟨b2, o2 + k * 10 + 4, none⟩ = some (.int .i64 y.b.nu) ∧ w'.cell? ⟨b2, o2 + k * 10 + 5, none⟩ = some (.bool y.b.nd) ∧ w'.cell? ⟨b2, o2 + k * 10 + 6, none⟩ = some (.int .i64 y.b.np) ∧ w'.cell? ⟨b2, o2 + k * 10 + 7, none⟩ = some (.string y.b.nn) ∧ w'.cell? ⟨b2, o2 + k * 10 + 8, none⟩ = some (.int .i64 y.b.ns) ∧ w'.cell? ⟨b2, o2 + k * 10 + 9, none⟩ = some (.slice y.a y.b.nl.length y.c)) wr.drew := ⟨(Below.refl _ _).drew, x0, x1, x2, x3, x4, x5, x6, x7, x8, x9, y0, y1, y2, y3, y4, y5, y6, y7, y8, y9⟩
            have HD := hide hD
            clear hD x0 x1 x2 x3 x4 x5 x6 x7 x8 x9 y0 y1 y2 y3 y4 y5 y6 y7 y8 y9
            go_wp2_with fail
            go_region_held3 (fun w' => Below wr.heap.size wr w' ∧ w'.cell? ⟨b1, o1 + k * 10, none⟩ = some (.int .i64 x.b.k) ∧ w'.cell? ⟨b1, o1 + k * 10 + 1, none⟩ = some (.int .i64 x.b.u) ∧ w'.cell? ⟨b1, o1 + k * 10 + 2, none⟩ = some (.int .i64 x.b.i) ∧ w'.cell? ⟨b1, o1 + k * 10 + 3, none⟩ = some (.int .i64 x.b.e) ∧ w'.cell? ⟨b1, o1 + k * 10 + 4, none⟩ = some (.int .i64 x.b.nu) ∧ w'.cell? ⟨b1, o1 + k * 10 + 5, none⟩ = some (.bool x.b.nd) ∧ w'.cell? ⟨b1, o1 + k * 10 + 6, none⟩ = some (.int .i64 x.b.np) ∧ w'.cell? ⟨b1, o1 + k * 10 + 7, none⟩ = some (.string x.b.nn) ∧ w'.cell? ⟨b1, o1 + k * 10 + 8, none⟩ = some (.int .i64 x.b.ns) ∧ w'.cell? ⟨b1, o1 + k * 10 + 9, none⟩ = some (.slice x.a x.b.nl.length x.c) ∧ w'.cell? ⟨b2, o2 + k * 10, none⟩ = some (.int .i64 y.b.k) ∧ w'.cell? ⟨b2, o2 + k * 10 + 1, none⟩ = some (.int .i64 y.b.u) ∧ w'.cell? ⟨b2, o2 + k * 10 + 2, none⟩ = some (.int .i64 y.b.i) ∧ w'.cell? ⟨b2, o2 + k * 10 + 3, none⟩ = some (.int .i64 y.b.e) ∧ w'.cell? ⟨b2, o2 + k * 10 + 4, none⟩ = some (.int .i64 y.b.nu) ∧ w'.cell? ⟨b2, o2 + k * 10 + 5, none⟩ = some (.bool y.b.nd) ∧ w'.cell? ⟨b2, o2 + k * 10 + 6, none⟩ = some (.int .i64 y.b.np) ∧ w'.cell? ⟨b2, o2 + k * 10 + 7, none⟩ = some (.string y.b.nn) ∧ w'.cell? ⟨b2, o2 + k * 10 + 8, none⟩ = some (.int .i64 y.b.ns) ∧ w'.cell? ⟨b2, o2 + k * 10 + 9, none⟩ = some (.slice y.a y.b.nl.length y.c)) (first | exact unhide HD | assumption | exact keepSB zb1 zb2 (by assumption) (by assumption))
              (first
                | (go_at_call 48; refine (l1Same_any x.a y.a x.c y.c x.b.nl y.b.nl _ ((unhide I1).below (And.left (by assumption))) ((unhide I2).below (And.left (by assumption))) hnl).mono ?_; rintro r w5 ⟨rfl, hb5⟩))
            rename_i hSF
            have B5 := hide (below_step (unhide HB) hSF.1 z0)
            clear hSF HD hb5
            cases hq : decide (x.b.nl = y.b.nl)
            · have HV : Hid (sameBlks L M = false) := by rw [Hid, unhide HST, unhide HSB, hq]; rfl
              go_wp2_with fail
              go_ret
              exact ⟨ret_bool (unhide HV).symm, unhide B5⟩
            · have HV : Hid (sameBlks L M = sameBlks (L.drop (k + 1)) (M.drop (k + 1))) := by rw [Hid, unhide HST, unhide HSB, hq]; rfl
              clear hq
              go_wp2_with fail
              go_roundw
              case rel => exact ⟨k + 1, by omega, by go_num, B5, HV⟩
              case measure => simp [intOf]; omega
      · have HV : Hid (sameBlks L M = true) := by
          have hle := unhide HL
          rw [Hid, unhide HX, List.drop_of_length_le (by omega), List.drop_of_length_le (by omega)]; rfl
        go_wp2_with fail
        go_ret
        exact ⟨ret_bool (unhide HV).symm, unhide HB⟩
  · have hlb : ((L.length : Int) != (M.length : Int)) = true := by simp; omega
    have HV := hide (sameBlks_len hl)
    clear hl
    go_enter Try.func12, Try.ntmps12
    go_wp2
    go_ret
    exact ⟨ret_bool (unhide HV).symm, Below.refl _ _⟩
end Go.Proofs.Ytaadbgebcknfkaa
