/-
  What laws.eqChangeS answers of the same records.
-/
import Derived.Test.YtgooodacneknkaaChangeSpec
import Derived.Test.YtgooodacneknkaaDevEq
import Derived.Test.YtgooodacneknkaaNodeEq
namespace Go.Proofs.Ytgooodacneknkaa
open Go.RowKit
set_option linter.unusedVariables false

set_option maxRecDepth 20000 in
set_option maxHeartbeats 2000000 in
theorem eqChange_same (k : Int) (u : Int) (i : Int) (nu : Int) (nd : Bool) (np : Int) (nn : ByteArray) (ns : Int) (a b : Option Addr) (c e : Nat) (nl : List Int) (w : World) (h : IntsAt w a nl) (h2 : IntsAt w b nl) (hn : nl.length ≤ 1048576) :
    Calls Try.prog 42 #[.agg #[.int .i64 k, .int .i64 u, .int .i64 i, .int .i64 nu, .bool nd, .int .i64 np, .string nn, .int .i64 ns, .slice a nl.length c], .agg #[.int .i64 k, .int .i64 u, .int .i64 i, .int .i64 nu, .bool nd, .int .i64 np, .string nn, .int .i64 ns, .slice b nl.length e]] w fun r w' => r = .returned (.bool true) ∧ Below w.heap.size w w' := by
  obtain ⟨W, hW, hWz, HB0, HX0, HY0⟩ := boxes2 w [.int .i64 k, .int .i64 u, .int .i64 i, .int .i64 nu, .bool nd, .int .i64 np, .string nn, .int .i64 ns, .slice a nl.length c] [.int .i64 k, .int .i64 u, .int .i64 i, .int .i64 nu, .bool nd, .int .i64 np, .string nn, .int .i64 ns, .slice b nl.length e] 67 67
  have H := hide (h.below (unhide HB0))
  have H2 := hide (h2.below (unhide HB0))
  clear h h2
  have hkk := int_neq_self k
  have huu := int_neq_self u
  have hii := int_neq_self i
  go_enter Try.func42, Try.ntmps42
  go_wp2_with fail
  rw [← hW]
  clear hW
  refine (eqNode_same nu nd np nn ns _).mono ?_
  rintro r w2 ⟨rfl, hb2⟩
  have HX2 := hide ((unhide HX0).below hb2)
  have HY2 := hide ((unhide HY0).below hb2)
  have H3 := hide ((unhide H).below hb2)
  have H4 := hide ((unhide H2).below hb2)
  have HB2 := hide (below_step (unhide HB0) hb2 (by omega))
  have z2 : w.heap.size + 1 < w2.heap.size := by have := hb2.size; omega
  clear hb2 HX0 HY0 H H2 HB0
  have x8 := (unhide HX2).cell 8
  have y8 := (unhide HY2).cell 8
  simp only [List.getElem?_cons_zero, List.getElem?_cons_succ] at x8 y8
  go_wp2_with fail
  refine (eqInt64S_same a b c e nl _ (unhide H3) (unhide H4) hn).mono ?_
  rintro r w3 ⟨rfl, hb3⟩
  have B3 := hide (below_step (unhide HB2) hb3 (by omega))
  clear hb3
  go_wp2_with fail
  go_ret
  exact ⟨rfl, unhide B3⟩
set_option maxRecDepth 20000 in
set_option maxHeartbeats 2000000 in
theorem eqChangeS_same (a b : Option Addr) (c d : Nat) (L M : List ChnA) (w : World) (h : ChnsAt w a L) (h2 : ChnsAt w b M) (hn : L.length ≤ 1048576) (hs : L.map ChnA.b = M.map ChnA.b) :
    Calls Try.prog 23 #[.slice a L.length c, .slice b M.length d] w fun r w' => r = .returned (.bool true) ∧ Below w.heap.size w w' := by
  have hlm : L.length = M.length := by simpa using congrArg List.length hs
  have hlb : ((L.length : Int) != (M.length : Int)) = false := by simp; omega
  have HL := hide hlm
  have HSS := hide hs
  clear hlm hs
  go_enter Try.func23, Try.ntmps23
  go_wp2
  go_loopw [5] (fun i wr => ∃ k : Nat, k ≤ L.length ∧ i = .int .i64 k ∧ Hid (Below w.heap.size w wr)) (fun i _ => L.length - (intOf i).toNat)
  case atStart => exact ⟨0, Nat.zero_le _, rfl, Below.refl _ _⟩
  case round =>
    obtain ⟨k, hk, rfl, HB⟩ := hrel
    by_cases hlt : k < L.length
    · have hlt2 : k < M.length := by have := unhide HL; omega
      have hxy : L[k].b = M[k].b := by
        have := congrArg (fun l => l[k]?) (unhide HSS)
        simpa [hlt, hlt2] using this
      obtain ⟨b1, o1, rfl, hb1, hc1⟩ := h.at hlt
      obtain ⟨b2, o2, rfl, hb2, hc2⟩ := h2.at hlt2
      have hbw := unhide HB
      have hx := hc1 k hlt
      have hy := hc2 k hlt2
      generalize L[k] = x at *
      generalize M[k] = y at *
      have I1 := hide (hx.2.1.keep hbw.size fun _ _ hl => hbw.block _ hl)
      have I2 : Hid (IntsAt wr y.a x.b.nl) := by rw [hxy]; exact hy.2.1.keep hbw.size fun _ _ hl => hbw.block _ hl
      have hnl := hx.2.2
      have z0 := hbw.size
      have zb1 : b1 < wr.heap.size := by omega
      have zb2 : b2 < wr.heap.size := by omega
      have x0 : wr.cell? ⟨b1, o1 + k * 9, none⟩ = some (.int .i64 x.b.k) := (hbw.cell (p := ⟨b1, o1 + k * 9, none⟩) hb1).trans (hx.1 0 _ rfl)
      have x1 : wr.cell? ⟨b1, o1 + k * 9 + 1, none⟩ = some (.int .i64 x.b.u) := (hbw.cell (p := ⟨b1, o1 + k * 9 + 1, none⟩) hb1).trans (hx.1 1 _ rfl)
      have x2 : wr.cell? ⟨b1, o1 + k * 9 + 2, none⟩ = some (.int .i64 x.b.i) := (hbw.cell (p := ⟨b1, o1 + k * 9 + 2, none⟩) hb1).trans (hx.1 2 _ rfl)
      have x3 : wr.cell? ⟨b1, o1 + k * 9 + 3, none⟩ = some (.int .i64 x.b.nu) := (hbw.cell (p := ⟨b1, o1 + k * 9 + 3, none⟩) hb1).trans (hx.1 3 _ rfl)
      have x4 : wr.cell? ⟨b1, o1 + k * 9 + 4, none⟩ = some (.bool x.b.nd) := (hbw.cell (p := ⟨b1, o1 + k * 9 + 4, none⟩) hb1).trans (hx.1 4 _ rfl)
      have x5 : wr.cell? ⟨b1, o1 + k * 9 + 5, none⟩ = some (.int .i64 x.b.np) := (hbw.cell (p := ⟨b1, o1 + k * 9 + 5, none⟩) hb1).trans (hx.1 5 _ rfl)
      have x6 : wr.cell? ⟨b1, o1 + k * 9 + 6, none⟩ = some (.string x.b.nn) := (hbw.cell (p := ⟨b1, o1 + k * 9 + 6, none⟩) hb1).trans (hx.1 6 _ rfl)
      have x7 : wr.cell? ⟨b1, o1 + k * 9 + 7, none⟩ = some (.int .i64 x.b.ns) := (hbw.cell (p := ⟨b1, o1 + k * 9 + 7, none⟩) hb1).trans (hx.1 7 _ rfl)
      have x8 : wr.cell? ⟨b1, o1 + k * 9 + 8, none⟩ = some (.slice x.a x.b.nl.length x.c) := (hbw.cell (p := ⟨b1, o1 + k * 9 + 8, none⟩) hb1).trans (hx.1 8 _ rfl)
      have y0 : wr.cell? ⟨b2, o2 + k * 9, none⟩ = some (.int .i64 x.b.k) := (hbw.cell (p := ⟨b2, o2 + k * 9, none⟩) hb2).trans (by rw [hxy]; exact hy.1 0 _ rfl)
      have y1 : wr.cell? ⟨b2, o2 + k * 9 + 1, none⟩ = some (.int .i64 x.b.u) := (hbw.cell (p := ⟨b2, o2 + k * 9 + 1, none⟩) hb2).trans (by rw [hxy]; exact hy.1 1 _ rfl)
      have y2 : wr.cell? ⟨b2, o2 + k * 9 + 2, none⟩ = some (.int .i64 x.b.i) := (hbw.cell (p := ⟨b2, o2 + k * 9 + 2, none⟩) hb2).trans (by rw [hxy]; exact hy.1 2 _ rfl)
      have y3 : wr.cell? ⟨b2, o2 + k * 9 + 3, none⟩ = some (.int .i64 x.b.nu) := (hbw.cell (p := ⟨b2, o2 + k * 9 + 3, none⟩) hb2).trans (by rw [hxy]; exact hy.1 3 _ rfl)
      have y4 : wr.cell? ⟨b2, o2 + k * 9 + 4, none⟩ = some (.bool x.b.nd) := (hbw.cell (p := ⟨b2, o2 + k * 9 + 4, none⟩) hb2).trans (by rw [hxy]; exact hy.1 4 _ rfl)
      have y5 : wr.cell? ⟨b2, o2 + k * 9 + 5, none⟩ = some (.int .i64 x.b.np) := (hbw.cell (p := ⟨b2, o2 + k * 9 + 5, none⟩) hb2).trans (by rw [hxy]; exact hy.1 5 _ rfl)
      have y6 : wr.cell? ⟨b2, o2 + k * 9 + 6, none⟩ = some (.string x.b.nn) := (hbw.cell (p := ⟨b2, o2 + k * 9 + 6, none⟩) hb2).trans (by rw [hxy]; exact hy.1 6 _ rfl)
      have y7 : wr.cell? ⟨b2, o2 + k * 9 + 7, none⟩ = some (.int .i64 x.b.ns) := (hbw.cell (p := ⟨b2, o2 + k * 9 + 7, none⟩) hb2).trans (by rw [hxy]; exact hy.1 7 _ rfl)
      have y8 : wr.cell? ⟨b2, o2 + k * 9 + 8, none⟩ = some (.slice y.a x.b.nl.length y.c) := (hbw.cell (p := ⟨b2, o2 + k * 9 + 8, none⟩) hb2).trans (by rw [hxy]; exact hy.1 8 _ rfl)
      clear hc1 hc2 hx hy h h2 hbw hxy
      have hD : (fun w' => Below wr.heap.size wr w' ∧ w'.cell? ⟨b1, o1 + k * 9, none⟩ = some (.int .i64 x.b.k) ∧ w'.cell? ⟨b1, o1 + k * 9 + 1, none⟩ = some (.int .i64 x.b.u) ∧ w'.cell? ⟨b1, o1 + k * 9 + 2, none⟩ = some (.int .i64 x.b.i) ∧ w'.cell? ⟨b1, o1 + k * 9 + 3, none⟩ = some (.int .i64 x.b.nu) ∧ w'.cell? ⟨b1, o1 + k * 9 + 4, none⟩ = some (.bool x.b.nd) ∧ w'.cell? ⟨b1, o1 + k * 9 + 5, none⟩ = some (.int .i64 x.b.np) ∧ w'.cell? ⟨b1, o1 + k * 9 + 6, none⟩ = some (.string x.b.nn) ∧ w'.cell? ⟨b1, o1 + k * 9 + 7, none⟩ = some (.int .i64 x.b.ns) ∧ w'.cell? ⟨b1, o1 + k * 9 + 8, none⟩ = some (.slice x.a x.b.nl.length x.c) ∧ w'.cell? ⟨b2, o2 + k * 9, none⟩ = some (.int .i64 x.b.k) ∧ w'.cell? ⟨b2, o2 + k * 9 + 1, none⟩ = some (.int .i64 x.b.u) ∧ w'.cell? ⟨b2, o2 + k * 9 + 2, none⟩ = some (.int .i64 x.b.i) ∧ w'.cell? ⟨b2, o2 + k * 9 + 3, none⟩ = some (.int .i64 x.b.nu) ∧ w'.cell? ⟨b2, o2 + k * 9 + 4, none⟩ = some (.bool x.b.nd) ∧ w'.cell? ⟨b2, o2 + k * 9 + 5, none⟩ = some (.int .i64 x.b.np) ∧ w'.cell? ⟨b2, o2 + k * 9 + 6, none⟩ = some (.string x.b.nn) ∧ w'.cell? ⟨b2, o2 + k * 9 + 7, none⟩ = some (.int .i64 x.b.ns) ∧ w'.cell? ⟨b2, o2 + k * 9 + 8, none⟩ = some (.slice y.a x.b.nl.length y.c)) wr.drew := ⟨(Below.refl _ _).drew, x0, x1, x2, x3, x4, x5, x6, x7, x8, y0, y1, y2, y3, y4, y5, y6, y7, y8⟩
      have HD := hide hD
      clear hD x0 x1 x2 x3 x4 x5 x6 x7 x8 y0 y1 y2 y3 y4 y5 y6 y7 y8
      go_wp2_with fail
      go_region_held3 (fun w' => Below wr.heap.size wr w' ∧ w'.cell? ⟨b1, o1 + k * 9, none⟩ = some (.int .i64 x.b.k) ∧ w'.cell? ⟨b1, o1 + k * 9 + 1, none⟩ = some (.int .i64 x.b.u) ∧ w'.cell? ⟨b1, o1 + k * 9 + 2, none⟩ = some (.int .i64 x.b.i) ∧ w'.cell? ⟨b1, o1 + k * 9 + 3, none⟩ = some (.int .i64 x.b.nu) ∧ w'.cell? ⟨b1, o1 + k * 9 + 4, none⟩ = some (.bool x.b.nd) ∧ w'.cell? ⟨b1, o1 + k * 9 + 5, none⟩ = some (.int .i64 x.b.np) ∧ w'.cell? ⟨b1, o1 + k * 9 + 6, none⟩ = some (.string x.b.nn) ∧ w'.cell? ⟨b1, o1 + k * 9 + 7, none⟩ = some (.int .i64 x.b.ns) ∧ w'.cell? ⟨b1, o1 + k * 9 + 8, none⟩ = some (.slice x.a x.b.nl.length x.c) ∧ w'.cell? ⟨b2, o2 + k * 9, none⟩ = some (.int .i64 x.b.k) ∧ w'.cell? ⟨b2, o2 + k * 9 + 1, none⟩ = some (.int .i64 x.b.u) ∧ w'.cell? ⟨b2, o2 + k * 9 + 2, none⟩ = some (.int .i64 x.b.i) ∧ w'.cell? ⟨b2, o2 + k * 9 + 3, none⟩ = some (.int .i64 x.b.nu) ∧ w'.cell? ⟨b2, o2 + k * 9 + 4, none⟩ = some (.bool x.b.nd) ∧ w'.cell? ⟨b2, o2 + k * 9 + 5, none⟩ = some (.int .i64 x.b.np) ∧ w'.cell? ⟨b2, o2 + k * 9 + 6, none⟩ = some (.string x.b.nn) ∧ w'.cell? ⟨b2, o2 + k * 9 + 7, none⟩ = some (.int .i64 x.b.ns) ∧ w'.cell? ⟨b2, o2 + k * 9 + 8, none⟩ = some (.slice y.a x.b.nl.length y.c)) (first | exact unhide HD | assumption | exact keepC18 zb1 zb1 zb1 zb1 zb1 zb1 zb1 zb1 zb1 zb2 zb2 zb2 zb2 zb2 zb2 zb2 zb2 zb2 (by assumption) (by assumption))
        (first
          | (go_at_call 42; refine (eqChange_same _ _ _ _ _ _ _ _ x.a y.a x.c y.c x.b.nl _ ((unhide I1).below (And.left (by assumption))) ((unhide I2).below (And.left (by assumption))) hnl).mono ?_; rintro r w5 ⟨rfl, hb5⟩))
      rename_i hSF
      have B5 := hide (below_step (unhide HB) hSF.1 z0)
      clear hSF HD hb5
      go_wp2_with fail
      exact ⟨⟨k + 1, by omega, by go_num, B5⟩, by simp [intOf]; omega⟩
    · go_wp2_with fail
      go_ret
      exact ⟨rfl, unhide HB⟩
end Go.Proofs.Ytgooodacneknkaa
