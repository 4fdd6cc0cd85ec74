/-
  What laws.eqBlockS answers of the same blocks.
-/
import Derived.Test.YtmkahaddnbhnaaaSSameBlkWalk
import Derived.Test.YtmkahaddnbhnaaaBlkResWalk
namespace Go.Proofs.Ytmkahaddnbhnaaa
open Go.RowKit
set_option linter.unusedVariables false

set_option maxRecDepth 20000 in
set_option maxHeartbeats 2000000 in
theorem eqBlockS_same (a b : Option Addr) (c d : Nat) (L M : List BlkA) (w : World) (h : BlksAt w a L) (h2 : BlksAt w b M) (hn : L.length ≤ 1048576) (hs : L.map BlkA.b = M.map BlkA.b) :
    Calls Try.prog 46 #[.slice a L.length c, .slice b M.length d] w fun r w' => r = .returned (.bool true) ∧ Below w.heap.size w w' := by
  have hlm : L.length = M.length := by simpa using congrArg List.length hs
  have hlb : ((L.length : Int) != (M.length : Int)) = false := by simp; omega
  have HL := hide hlm
  have HSS := hide hs
  clear hlm hs
  go_enter Try.func46, Try.ntmps46
  go_wp2
  go_loopw [5] (fun i wr => ∃ k : Nat, k ≤ L.length ∧ i = .int .i64 k ∧ Hid (Below w.heap.size w wr)) (fun i _ => L.length - (intOf i).toNat)
  case atStart => exact ⟨0, Nat.zero_le _, rfl, Below.refl _ _⟩
  case round =>
    obtain ⟨k, hk, rfl, HB⟩ := hrel
    by_cases hlt : k < L.length
    · have hlt2 : k < M.length := by have := unhide HL; omega
      have hxy : L[k].b = M[k].b := by
        have := congrArg (fun l => l[k]?) (unhide HSS)
        simpa [hlt, hlt2] using this
      obtain ⟨b1, o1, rfl, hb1, hc1⟩ := h.at hlt
      obtain ⟨b2, o2, rfl, hb2, hc2⟩ := h2.at hlt2
      have hbw := unhide HB
      have hx := hc1 k hlt
      have hy := hc2 k hlt2
      generalize L[k] = x at *
      generalize M[k] = y at *
      have I1 := hide (hx.2.1.keep hbw.size fun _ _ hl => hbw.block _ hl)
      have I2 : Hid (IntsAt wr y.a x.b.nl) := by rw [hxy]; exact hy.2.1.keep hbw.size fun _ _ hl => hbw.block _ hl
      have hnl := hx.2.2
      have z0 := hbw.size
      have zb1 : b1 < wr.heap.size := by omega
      have zb2 : b2 < wr.heap.size := by omega
      have x0 : wr.cell? ⟨b1, o1 + k * 10, none⟩ = some (.int .i64 x.b.k) := (hbw.cell (p := ⟨b1, o1 + k * 10, none⟩) hb1).trans (hx.1 0 _ rfl)
      have x1 : wr.cell? ⟨b1, o1 + k * 10 + 1, none⟩ = some (.int .i64 x.b.u) := (hbw.cell (p := ⟨b1, o1 + k * 10 + 1, none⟩) hb1).trans (hx.1 1 _ rfl)
      have x2 : wr.cell? ⟨b1, o1 + k * 10 + 2, none⟩ = some (.int .i64 x.b.i) := (hbw.cell (p := ⟨b1, o1 + k * 10 + 2, none⟩) hb1).trans (hx.1 2 _ rfl)
      have x3 : wr.cell? ⟨b1, o1 + k * 10 + 3, none⟩ = some (.int .i64 x.b.e) := (hbw.cell (p := ⟨b1, o1 + k * 10 + 3, none⟩) hb1).trans (hx.1 3 _ rfl)
      have x4 : wr.cell? ⟨b1, o1 + k * 10 + 4, none⟩ = some (.int .i64 x.b.nu) := (hbw.cell (p := ⟨b1, o1 + k * 10 + 4, none⟩) hb1).trans (hx.1 4 _ rfl)
      have x5 : wr.cell? ⟨b1, o1 + k * 10 + 5, none⟩ = some (.bool x.b.nd) := (hbw.cell (p := ⟨b1, o1 + k * 10 + 5, none⟩) hb1).trans (hx.1 5 _ rfl)
      have x6 : wr.cell? ⟨b1, o1 + k * 10 + 6, none⟩ = some (.int .i64 x.b.np) := (hbw.cell (p := ⟨b1, o1 + k * 10 + 6, none⟩) hb1).trans (hx.1 6 _ rfl)
      have x7 : wr.cell? ⟨b1, o1 + k * 10 + 7, none⟩ = some (.string x.b.nn) := (hbw.cell (p := ⟨b1, o1 + k * 10 + 7, none⟩) hb1).trans (hx.1 7 _ rfl)
      have x8 : wr.cell? ⟨b1, o1 + k * 10 + 8, none⟩ = some (.int .i64 x.b.ns) := (hbw.cell (p := ⟨b1, o1 + k * 10 + 8, none⟩) hb1).trans (hx.1 8 _ rfl)
      have x9 : wr.cell? ⟨b1, o1 + k * 10 + 9, none⟩ = some (.slice x.a x.b.nl.length x.c) := (hbw.cell (p := ⟨b1, o1 + k * 10 + 9, none⟩) hb1).trans (hx.1 9 _ rfl)
      have y0 : wr.cell? ⟨b2, o2 + k * 10, none⟩ = some (.int .i64 x.b.k) := (hbw.cell (p := ⟨b2, o2 + k * 10, none⟩) hb2).trans (by rw [hxy]; exact hy.1 0 _ rfl)
      have y1 : wr.cell? ⟨b2, o2 + k * 10 + 1, none⟩ = some (.int .i64 x.b.u) := (hbw.cell (p := ⟨b2, o2 + k * 10 + 1, none⟩) hb2).trans (by rw [hxy]; exact hy.1 1 _ rfl)
      have y2 : wr.cell? ⟨b2, o2 + k * 10 + 2, none⟩ = some (.int .i64 x.b.i) := (hbw.cell (p := ⟨b2, o2 + k * 10 + 2, none⟩) hb2).trans (by rw [hxy]; exact hy.1 2 _ rfl)
      have y3 : wr.cell? ⟨b2, o2 + k * 10 + 3, none⟩ = some (.int .i64 x.b.e) := (hbw.cell (p := ⟨b2, o2 + k * 10 + 3, none⟩) hb2).trans (by rw [hxy]; exact hy.1 3 _ rfl)
      have y4 : wr.cell? ⟨b2, o2 + k * 10 + 4, none⟩ = some (.int .i64 x.b.nu) := (hbw.cell (p := ⟨b2, o2 + k * 10 + 4, none⟩) hb2).trans (by rw [hxy]; exact hy.1 4 _ rfl)
      have y5 : wr.cell? ⟨b2, o2 + k * 10 + 5, none⟩ = some (.bool x.b.nd) := (hbw.cell (p := ⟨b2, o2 + k * 10 + 5, none⟩) hb2).trans (by rw [hxy]; exact hy.1 5 _ rfl)
      have y6 : wr.cell? ⟨b2, o2 + k * 10 + 6, none⟩ = some (.int .i64 x.b.np) := (hbw.cell (p := ⟨b2, o2 + k * 10 + 6, none⟩) hb2).trans (by rw [hxy]; exact hy.1 6 _ rfl)
      have y7 : wr.cell? ⟨b2, o2 + k * 10 + 7, none⟩ = some (.string x.b.nn) := (hbw.cell (p := ⟨b2, o2 + k * 10 + 7, none⟩) hb2).trans (by rw [hxy]; exact hy.1 7 _ rfl)
      have y8 : wr.cell? ⟨b2, o2 + k * 10 + 8, none⟩ = some (.int .i64 x.b.ns) := (hbw.cell (p := ⟨b2, o2 + k * 10 + 8, none⟩) hb2).trans (by rw [hxy]; exact hy.1 8 _ rfl)
      have y9 : wr.cell? ⟨b2, o2 + k * 10 + 9, none⟩ = some (.slice y.a x.b.nl.length y.c) := (hbw.cell (p := ⟨b2, o2 + k * 10 + 9, none⟩) hb2).trans (by rw [hxy]; exact hy.1 9 _ rfl)
      clear hc1 hc2 hx hy h h2 hbw hxy
      have hD : (fun w' => Below wr.heap.size wr w' ∧ w'.cell? ⟨b1, o1 + k * 10, none⟩ = some (.int .i64 x.b.k) ∧ w'.cell? ⟨b1, o1 + k * 10 + 1, none⟩ = some (.int .i64 x.b.u) ∧ w'.cell? ⟨b1, o1 + k * 10 + 2, none⟩ = some (.int .i64 x.b.i) ∧ w'.cell? ⟨b1, o1 + k * 10 + 3, none⟩ = some (.int .i64 x.b.e) ∧ w'.cell? ⟨b1, o1 + k * 10 + 4, none⟩ = some (.int .i64 x.b.nu) ∧ w'.cell? ⟨b1, o1 + k * 10 + 5, none⟩ = some (.bool x.b.nd) ∧ w'.cell? ⟨b1, o1 + k * 10 + 6, none⟩ = some (.int .i64 x.b.np) ∧ w'.cell? ⟨b1, o1 + k * 10 + 7, none⟩ = some (.string x.b.nn) ∧ w'.cell? ⟨b1, o1 + k * 10 + 8, none⟩ = some (.int .i64 x.b.ns) ∧ w'.cell? ⟨b1, o1 + k * 10 + 9, none⟩ = some (.slice x.a x.b.nl.length x.c) ∧ w'.cell? ⟨b2, o2 + k * 10, none⟩ = some (.int .i64 x.b.k) ∧ w'.cell? ⟨b2, o2 + k * 10 + 1, none⟩ = some (.int .i64 x.b.u) ∧ w'.cell? ⟨b2, o2 + k * 10 + 2, none⟩ = some (.int .i64 x.b.i) ∧ w'.cell? ⟨b2, o2 + k * 10 + 3, none⟩ = some (.int .i64 x.b.e) ∧ w'.cell? ⟨b2, o2 + k * 10 + 4, none⟩ = some (.int .i64 x.b.nu) ∧ w'.cell? ⟨b2, o2 + k * 10 + 5, none⟩ = some (.bool x.b.nd) ∧ w'.cell? ⟨b2, o2 + k * 10 + 6, none⟩ = some (.int .i64 x.b.np) ∧ w'.cell? ⟨b2, o2 + k * 10 + 7, none⟩ = some (.string x.b.nn) ∧ w'.cell? ⟨b2, o2 + k * 10 + 8, none⟩ = some (.int .i64 x.b.ns) ∧ w'.cell? ⟨b2, o2 + k * 10 + 9, none⟩ = some (.slice y.a x.b.nl.length y.c)) wr.drew := ⟨(Below.refl _ _).drew, x0, x1, x2, x3, x4, x5, x6, x7, x8, x9, y0, y1, y2, y3, y4, y5, y6, y7, y8, y9⟩
      have HD := hide hD
      clear hD x0 x1 x2 x3 x4 x5 x6 x7 x8 x9 y0 y1 y2 y3 y4 y5 y6 y7 y8 y9
      go_wp2_with fail
      go_region_held3 (fun w' => Below wr.heap.size wr w' ∧ w'.cell? ⟨b1, o1 + k * 10, none⟩ = some (.int .i64 x.b.k) ∧ w'.cell? ⟨b1, o1 + k * 10 + 1, none⟩ = some (.int .i64 x.b.u) ∧ w'.cell? ⟨b1, o1 + k * 10 + 2, none⟩ = some (.int .i64 x.b.i) ∧ w'.cell? ⟨b1, o1 + k * 10 + 3, none⟩ = some (.int .i64 x.b.e) ∧ w'.cell? ⟨b1, o1 + k * 10 + 4, none⟩ = some (.int .i64 x.b.nu) ∧ w'.cell? ⟨b1, o1 + k * 10 + 5, none⟩ = some (.bool x.b.nd) ∧ w'.cell? ⟨b1, o1 + k * 10 + 6, none⟩ = some (.int .i64 x.b.np) ∧ w'.cell? ⟨b1, o1 + k * 10 + 7, none⟩ = some (.string x.b.nn) ∧ w'.cell? ⟨b1, o1 + k * 10 + 8, none⟩ = some (.int .i64 x.b.ns) ∧ w'.cell? ⟨b1, o1 + k * 10 + 9, none⟩ = some (.slice x.a x.b.nl.length x.c) ∧ w'.cell? ⟨b2, o2 + k * 10, none⟩ = some (.int .i64 x.b.k) ∧ w'.cell? ⟨b2, o2 + k * 10 + 1, none⟩ = some (.int .i64 x.b.u) ∧ w'.cell? ⟨b2, o2 + k * 10 + 2, none⟩ = some (.int .i64 x.b.i) ∧ w'.cell? ⟨b2, o2 + k * 10 + 3, none⟩ = some (.int .i64 x.b.e) ∧ w'.cell? ⟨b2, o2 + k * 10 + 4, none⟩ = some (.int .i64 x.b.nu) ∧ w'.cell? ⟨b2, o2 + k * 10 + 5, none⟩ = some (.bool x.b.nd) ∧ w'.cell? ⟨b2, o2 + k * 10 + 6, none⟩ = some (.int .i64 x.b.np) ∧ w'.cell? ⟨b2, o2 + k * 10 + 7, none⟩ = some (.string x.b.nn) ∧ w'.cell? ⟨b2, o2 + k * 10 + 8, none⟩ = some (.int .i64 x.b.ns) ∧ w'.cell? ⟨b2, o2 + k * 10 + 9, none⟩ = some (.slice y.a x.b.nl.length y.c)) (first | exact unhide HD | assumption | exact keepSB zb1 zb2 (by assumption) (by assumption))
        (first
          | (go_at_call 77; refine (eqBlock_same _ _ _ _ _ _ _ _ _ x.a y.a x.c y.c x.b.nl _ ((unhide I1).below (And.left (by assumption))) ((unhide I2).below (And.left (by assumption))) hnl).mono ?_; rintro r w5 ⟨rfl, hb5⟩))
      rename_i hSF
      have B5 := hide (below_step (unhide HB) hSF.1 z0)
      clear hSF HD hb5
      go_wp2_with fail
      exact ⟨⟨k + 1, by omega, by go_num, B5⟩, by simp [intOf]; omega⟩
    · go_wp2_with fail
      go_ret
      exact ⟨rfl, unhide HB⟩
end Go.Proofs.Ytmkahaddnbhnaaa
