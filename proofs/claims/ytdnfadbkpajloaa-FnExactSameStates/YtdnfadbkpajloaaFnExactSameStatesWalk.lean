/-
  The walk of laws.FnExactSameStates: it returns true, and writes nothing that was there.
-/
import Derived.Test.YtdnfadbkpajloaaStateLaws
import Derived.Test.YtdnfadbkpajloaaStateSame
import Derived.Test.YtdnfadbkpajloaaStateSpec
import Derived.Deep.RegionHeld3
import Derived.Deep.CutRange
namespace Go.Proofs.Ytdnfadbkpajloaa
open Go.RowKit
set_option linter.unusedVariables false
/-- toState_any, the answer's cells written out. -/
theorem toStateE_any (x : StaA) (w : World) (h : x.side w) (hl : x.lens 1048576) :
    Calls Try.prog 51 #[.agg #[.bool x.up, .int .i64 x.now, .int .i64 x.su, .slice x.a1 x.D.words.length x.c1, .slice x.a2 x.D.flights.length x.c2, .slice x.a3 x.D.over.length x.c3, .slice x.aI x.LI.length x.cI, .int .i64 x.fr, .slice x.aB x.bl.length x.cB, .slice x.aC x.cl.length x.cC, .slice x.aN x.LN.length x.cN]] w fun r w' => (∃ y : StaA, r = .returned (.agg #[.bool y.up, .int .i64 y.now, .int .i64 y.su, .slice y.a1 y.D.words.length y.c1, .slice y.a2 y.D.flights.length y.c2, .slice y.a3 y.D.over.length y.c3, .slice y.aI y.LI.length y.cI, .int .i64 y.fr, .slice y.aB y.bl.length y.cB, .slice y.aC y.cl.length y.cC, .slice y.aN y.LN.length y.cN]) ∧ y.like x ∧ y.side w') ∧ Below w.heap.size w w' :=
  (toState_any x w h hl).mono fun _ _ ⟨⟨y, h1, h2⟩, hb⟩ => ⟨⟨y, h1, h2⟩, hb⟩
namespace fnExactSameStates

theorem left {W0 w' : World} {p : Prop} (h : Below W0.heap.size W0 w' ∧ p) : Below W0.heap.size W0 w' := h.1
theorem StaA.like.refl (x : StaA) : x.like x := ⟨rfl, rfl, rfl, rfl, rfl, rfl, rfl, rfl, rfl⟩
theorem like_both {x y z : StaA} (h : x.like z) (k : y.like z) : x.like y := ⟨h.up.trans k.up.symm, h.now.trans k.now.symm, h.su.trans k.su.symm, h.D.trans k.D.symm, h.LI.trans k.LI.symm, h.fr.trans k.fr.symm, h.bl.trans k.bl.symm, h.cl.trans k.cl.symm, h.LN.trans k.LN.symm⟩
theorem keepC22 {W0 w' w1 : World} {b0 b1 b2 b3 b4 b5 b6 b7 b8 b9 b10 b11 b12 b13 b14 b15 b16 b17 b18 b19 b20 b21 o0 o1 o2 o3 o4 o5 o6 o7 o8 o9 o10 o11 o12 o13 o14 o15 o16 o17 o18 o19 o20 o21 : Nat} {v0 v1 v2 v3 v4 v5 v6 v7 v8 v9 v10 v11 v12 v13 v14 v15 v16 v17 v18 v19 v20 v21 : Value} (h0 : b0 < W0.heap.size) (h1 : b1 < W0.heap.size) (h2 : b2 < W0.heap.size) (h3 : b3 < W0.heap.size) (h4 : b4 < W0.heap.size) (h5 : b5 < W0.heap.size) (h6 : b6 < W0.heap.size) (h7 : b7 < W0.heap.size) (h8 : b8 < W0.heap.size) (h9 : b9 < W0.heap.size) (h10 : b10 < W0.heap.size) (h11 : b11 < W0.heap.size) (h12 : b12 < W0.heap.size) (h13 : b13 < W0.heap.size) (h14 : b14 < W0.heap.size) (h15 : b15 < W0.heap.size) (h16 : b16 < W0.heap.size) (h17 : b17 < W0.heap.size) (h18 : b18 < W0.heap.size) (h19 : b19 < W0.heap.size) (h20 : b20 < W0.heap.size) (h21 : b21 < W0.heap.size) (hS : Below W0.heap.size W0 w' ∧ w'.cell? ⟨b0, o0, none⟩ = some v0 ∧ w'.cell? ⟨b1, o1, none⟩ = some v1 ∧ w'.cell? ⟨b2, o2, none⟩ = some v2 ∧ w'.cell? ⟨b3, o3, none⟩ = some v3 ∧ w'.cell? ⟨b4, o4, none⟩ = some v4 ∧ w'.cell? ⟨b5, o5, none⟩ = some v5 ∧ w'.cell? ⟨b6, o6, none⟩ = some v6 ∧ w'.cell? ⟨b7, o7, none⟩ = some v7 ∧ w'.cell? ⟨b8, o8, none⟩ = some v8 ∧ w'.cell? ⟨b9, o9, none⟩ = some v9 ∧ w'.cell? ⟨b10, o10, none⟩ = some v10 ∧ w'.cell? ⟨b11, o11, none⟩ = some v11 ∧ w'.cell? ⟨b12, o12, none⟩ = some v12 ∧ w'.cell? ⟨b13, o13, none⟩ = some v13 ∧ w'.cell? ⟨b14, o14, none⟩ = some v14 ∧ w'.cell? ⟨b15, o15, none⟩ = some v15 ∧ w'.cell? ⟨b16, o16, none⟩ = some v16 ∧ w'.cell? ⟨b17, o17, none⟩ = some v17 ∧ w'.cell? ⟨b18, o18, none⟩ = some v18 ∧ w'.cell? ⟨b19, o19, none⟩ = some v19 ∧ w'.cell? ⟨b20, o20, none⟩ = some v20 ∧ w'.cell? ⟨b21, o21, none⟩ = some v21) (hb : Below w'.heap.size w' w1) : Below W0.heap.size W0 w1 ∧ w1.cell? ⟨b0, o0, none⟩ = some v0 ∧ w1.cell? ⟨b1, o1, none⟩ = some v1 ∧ w1.cell? ⟨b2, o2, none⟩ = some v2 ∧ w1.cell? ⟨b3, o3, none⟩ = some v3 ∧ w1.cell? ⟨b4, o4, none⟩ = some v4 ∧ w1.cell? ⟨b5, o5, none⟩ = some v5 ∧ w1.cell? ⟨b6, o6, none⟩ = some v6 ∧ w1.cell? ⟨b7, o7, none⟩ = some v7 ∧ w1.cell? ⟨b8, o8, none⟩ = some v8 ∧ w1.cell? ⟨b9, o9, none⟩ = some v9 ∧ w1.cell? ⟨b10, o10, none⟩ = some v10 ∧ w1.cell? ⟨b11, o11, none⟩ = some v11 ∧ w1.cell? ⟨b12, o12, none⟩ = some v12 ∧ w1.cell? ⟨b13, o13, none⟩ = some v13 ∧ w1.cell? ⟨b14, o14, none⟩ = some v14 ∧ w1.cell? ⟨b15, o15, none⟩ = some v15 ∧ w1.cell? ⟨b16, o16, none⟩ = some v16 ∧ w1.cell? ⟨b17, o17, none⟩ = some v17 ∧ w1.cell? ⟨b18, o18, none⟩ = some v18 ∧ w1.cell? ⟨b19, o19, none⟩ = some v19 ∧ w1.cell? ⟨b20, o20, none⟩ = some v20 ∧ w1.cell? ⟨b21, o21, none⟩ = some v21 := by
  obtain ⟨h, d0, d1, d2, d3, d4, d5, d6, d7, d8, d9, d10, d11, d12, d13, d14, d15, d16, d17, d18, d19, d20, d21⟩ := hS
  have hz := h.size
  exact ⟨h.trans (hb.mono hz), ((bcell hb).1 _ _ (by omega)).trans d0, ((bcell hb).1 _ _ (by omega)).trans d1, ((bcell hb).1 _ _ (by omega)).trans d2, ((bcell hb).1 _ _ (by omega)).trans d3, ((bcell hb).1 _ _ (by omega)).trans d4, ((bcell hb).1 _ _ (by omega)).trans d5, ((bcell hb).1 _ _ (by omega)).trans d6, ((bcell hb).1 _ _ (by omega)).trans d7, ((bcell hb).1 _ _ (by omega)).trans d8, ((bcell hb).1 _ _ (by omega)).trans d9, ((bcell hb).1 _ _ (by omega)).trans d10, ((bcell hb).1 _ _ (by omega)).trans d11, ((bcell hb).1 _ _ (by omega)).trans d12, ((bcell hb).1 _ _ (by omega)).trans d13, ((bcell hb).1 _ _ (by omega)).trans d14, ((bcell hb).1 _ _ (by omega)).trans d15, ((bcell hb).1 _ _ (by omega)).trans d16, ((bcell hb).1 _ _ (by omega)).trans d17, ((bcell hb).1 _ _ (by omega)).trans d18, ((bcell hb).1 _ _ (by omega)).trans d19, ((bcell hb).1 _ _ (by omega)).trans d20, ((bcell hb).1 _ _ (by omega)).trans d21⟩

set_option maxRecDepth 20000 in
set_option maxHeartbeats 16000000 in
theorem walk (x y : StaA) (w : World) (h : x.sideR w) (hl : x.lens maxLen) (h2 : y.sideR w) (hl2 : y.lens maxLen) :
    Calls Try.prog 10 #[.agg #[.bool x.up, .int .i64 x.now, .int .i64 x.su, .slice x.a1 x.D.words.length x.c1, .slice x.a2 x.D.flights.length x.c2, .slice x.a3 x.D.over.length x.c3, .slice x.aI x.LI.length x.cI, .int .i64 x.fr, .slice x.aB x.bl.length x.cB, .slice x.aC x.cl.length x.cC, .slice x.aN x.LN.length x.cN], .agg #[.bool y.up, .int .i64 y.now, .int .i64 y.su, .slice y.a1 y.D.words.length y.c1, .slice y.a2 y.D.flights.length y.c2, .slice y.a3 y.D.over.length y.c3, .slice y.aI y.LI.length y.cI, .int .i64 y.fr, .slice y.aB y.bl.length y.cB, .slice y.aC y.cl.length y.cC, .slice y.aN y.LN.length y.cN]] w fun r w' => r = .returned (.bool true) ∧ Below w.heap.size w w' := by
  obtain ⟨W1, hW, hWz, hbx, hx, hy⟩ := boxes2 w [.bool x.up, .int .i64 x.now, .int .i64 x.su, .slice x.a1 x.D.words.length x.c1, .slice x.a2 x.D.flights.length x.c2, .slice x.a3 x.D.over.length x.c3, .slice x.aI x.LI.length x.cI, .int .i64 x.fr, .slice x.aB x.bl.length x.cB, .slice x.aC x.cl.length x.cC, .slice x.aN x.LN.length x.cN] [.bool y.up, .int .i64 y.now, .int .i64 y.su, .slice y.a1 y.D.words.length y.c1, .slice y.a2 y.D.flights.length y.c2, .slice y.a3 y.D.over.length y.c3, .slice y.aI y.LI.length y.cI, .int .i64 y.fr, .slice y.aB y.bl.length y.cB, .slice y.aC y.cl.length y.cC, .slice y.aN y.LN.length y.cN] 90 90
  go_enter Try.func10, Try.ntmps10
  go_wp2_with fail
  rw [← hW]
  clear hW
  have A1 := hide (h.below (unhide hbx))
  have C1 := hide (h2.below (unhide hbx))
  have P1 := hx
  have R1 := hy
  have B1 := hbx
  clear hx hy hbx h h2
  refine (szState_any x 1048576 _ (by omega) (by omega) (unhide A1) hl).mono ?_
  rintro e w2 ⟨⟨r, rfl, hr⟩, hb⟩
  have z2 : W1.heap.size ≤ w2.heap.size := hb.size
  have A2 := hide ((unhide A1).below hb)
  have C2 := hide ((unhide C1).below hb)
  have P2 := hide ((unhide P1).below hb)
  have R2 := hide ((unhide R1).below hb)
  have B2 := hide (below_step (unhide B1) hb (by omega))
  clear hb B1 A1 C1 P1 R1
  by_cases hv : r < 0
  · clear hr
    go_wp2_with fail
    go_ret
    exact ⟨rfl, unhide B2⟩
  obtain ⟨r0, r1, lx, ix⟩ : 0 ≤ r ∧ r ≤ 1048576 ∧ x.lens 1048576 ∧ x.inner := by
    rcases hr with h | h
    · omega
    · exact h
  clear hr hl
  have cy0 := (unhide R2).cell 0
  have cy1 := (unhide R2).cell 1
  have cy2 := (unhide R2).cell 2
  have cy3 := (unhide R2).cell 3
  have cy4 := (unhide R2).cell 4
  have cy5 := (unhide R2).cell 5
  have cy6 := (unhide R2).cell 6
  have cy7 := (unhide R2).cell 7
  have cy8 := (unhide R2).cell 8
  have cy9 := (unhide R2).cell 9
  have cy10 := (unhide R2).cell 10
  simp only [List.getElem?_cons_zero, List.getElem?_cons_succ] at cy0 cy1 cy2 cy3 cy4 cy5 cy6 cy7 cy8 cy9 cy10
  have lcy : w.heap.size + 1 < w2.heap.size := by omega
  go_wp2_with fail
  clear cy0 cy1 cy2 cy3 cy4 cy5 cy6 cy7 cy8 cy9 cy10
  refine (szState_any y r _ r0 r1 (unhide C2) hl2).mono ?_
  rintro e w3 ⟨⟨q, rfl, hq⟩, hb⟩
  have z3 : w2.heap.size ≤ w3.heap.size := hb.size
  have A3 := hide ((unhide A2).below hb)
  have C3 := hide ((unhide C2).below hb)
  have P3 := hide ((unhide P2).below hb)
  have R3 := hide ((unhide R2).below hb)
  have B3 := hide (below_step (unhide B2) hb (by omega))
  clear hb B2 A2 C2 P2 R2
  by_cases hv2 : q < 0
  · clear hq
    go_wp2_with fail
    go_ret
    exact ⟨rfl, unhide B3⟩
  obtain ⟨q0, q1, ly, iy⟩ : 0 ≤ q ∧ q ≤ r ∧ y.lens 1048576 ∧ y.inner := by
    rcases hq with h | h
    · omega
    · exact h
  clear hq hl2
  have A4 := hide ((unhide A3).toSide ix)
  have C4 := hide ((unhide C3).toSide iy)
  clear A3 C3
  have HCX : Hid (∀ w0, Below w3.heap.size w3 w0 → Calls Try.prog 51 #[.agg #[.bool x.up, .int .i64 x.now, .int .i64 x.su, .slice x.a1 x.D.words.length x.c1, .slice x.a2 x.D.flights.length x.c2, .slice x.a3 x.D.over.length x.c3, .slice x.aI x.LI.length x.cI, .int .i64 x.fr, .slice x.aB x.bl.length x.cB, .slice x.aC x.cl.length x.cC, .slice x.aN x.LN.length x.cN]] w0 fun r w' => (∃ z : StaA, r = .returned (.agg #[.bool z.up, .int .i64 z.now, .int .i64 z.su, .slice z.a1 z.D.words.length z.c1, .slice z.a2 z.D.flights.length z.c2, .slice z.a3 z.D.over.length z.c3, .slice z.aI z.LI.length z.cI, .int .i64 z.fr, .slice z.aB z.bl.length z.cB, .slice z.aC z.cl.length z.cC, .slice z.aN z.LN.length z.cN]) ∧ z.like x ∧ z.side w') ∧ Below w0.heap.size w0 w') := fun w0 hb => toStateE_any x w0 ((unhide A4).below hb) lx
  have HCY : Hid (∀ w0, Below w3.heap.size w3 w0 → Calls Try.prog 51 #[.agg #[.bool y.up, .int .i64 y.now, .int .i64 y.su, .slice y.a1 y.D.words.length y.c1, .slice y.a2 y.D.flights.length y.c2, .slice y.a3 y.D.over.length y.c3, .slice y.aI y.LI.length y.cI, .int .i64 y.fr, .slice y.aB y.bl.length y.cB, .slice y.aC y.cl.length y.cC, .slice y.aN y.LN.length y.cN]] w0 fun r w' => (∃ z : StaA, r = .returned (.agg #[.bool z.up, .int .i64 z.now, .int .i64 z.su, .slice z.a1 z.D.words.length z.c1, .slice z.a2 z.D.flights.length z.c2, .slice z.a3 z.D.over.length z.c3, .slice z.aI z.LI.length z.cI, .int .i64 z.fr, .slice z.aB z.bl.length z.cB, .slice z.aC z.cl.length z.cC, .slice z.aN z.LN.length z.cN]) ∧ z.like y ∧ z.side w') ∧ Below w0.heap.size w0 w') := fun w0 hb => toStateE_any y w0 ((unhide C4).below hb) ly
  have ca0 := (unhide P3).cell 0
  have ca1 := (unhide P3).cell 1
  have ca2 := (unhide P3).cell 2
  have ca3 := (unhide P3).cell 3
  have ca4 := (unhide P3).cell 4
  have ca5 := (unhide P3).cell 5
  have ca6 := (unhide P3).cell 6
  have ca7 := (unhide P3).cell 7
  have ca8 := (unhide P3).cell 8
  have ca9 := (unhide P3).cell 9
  have ca10 := (unhide P3).cell 10
  simp only [List.getElem?_cons_zero, List.getElem?_cons_succ] at ca0 ca1 ca2 ca3 ca4 ca5 ca6 ca7 ca8 ca9 ca10
  have cy0 := (unhide R3).cell 0
  have cy1 := (unhide R3).cell 1
  have cy2 := (unhide R3).cell 2
  have cy3 := (unhide R3).cell 3
  have cy4 := (unhide R3).cell 4
  have cy5 := (unhide R3).cell 5
  have cy6 := (unhide R3).cell 6
  have cy7 := (unhide R3).cell 7
  have cy8 := (unhide R3).cell 8
  have cy9 := (unhide R3).cell 9
  have cy10 := (unhide R3).cell 10
  simp only [List.getElem?_cons_zero, List.getElem?_cons_succ] at cy0 cy1 cy2 cy3 cy4 cy5 cy6 cy7 cy8 cy9 cy10
  have hD : (fun w' => Below w3.heap.size w3 w' ∧ w'.cell? ⟨w.heap.size, 0, none⟩ = some (.bool x.up) ∧ w'.cell? ⟨w.heap.size, 1, none⟩ = some (.int .i64 x.now) ∧ w'.cell? ⟨w.heap.size, 2, none⟩ = some (.int .i64 x.su) ∧ w'.cell? ⟨w.heap.size, 3, none⟩ = some (.slice x.a1 x.D.words.length x.c1) ∧ w'.cell? ⟨w.heap.size, 4, none⟩ = some (.slice x.a2 x.D.flights.length x.c2) ∧ w'.cell? ⟨w.heap.size, 5, none⟩ = some (.slice x.a3 x.D.over.length x.c3) ∧ w'.cell? ⟨w.heap.size, 6, none⟩ = some (.slice x.aI x.LI.length x.cI) ∧ w'.cell? ⟨w.heap.size, 7, none⟩ = some (.int .i64 x.fr) ∧ w'.cell? ⟨w.heap.size, 8, none⟩ = some (.slice x.aB x.bl.length x.cB) ∧ w'.cell? ⟨w.heap.size, 9, none⟩ = some (.slice x.aC x.cl.length x.cC) ∧ w'.cell? ⟨w.heap.size, 10, none⟩ = some (.slice x.aN x.LN.length x.cN) ∧ w'.cell? ⟨w.heap.size + 1, 0, none⟩ = some (.bool y.up) ∧ w'.cell? ⟨w.heap.size + 1, 1, none⟩ = some (.int .i64 y.now) ∧ w'.cell? ⟨w.heap.size + 1, 2, none⟩ = some (.int .i64 y.su) ∧ w'.cell? ⟨w.heap.size + 1, 3, none⟩ = some (.slice y.a1 y.D.words.length y.c1) ∧ w'.cell? ⟨w.heap.size + 1, 4, none⟩ = some (.slice y.a2 y.D.flights.length y.c2) ∧ w'.cell? ⟨w.heap.size + 1, 5, none⟩ = some (.slice y.a3 y.D.over.length y.c3) ∧ w'.cell? ⟨w.heap.size + 1, 6, none⟩ = some (.slice y.aI y.LI.length y.cI) ∧ w'.cell? ⟨w.heap.size + 1, 7, none⟩ = some (.int .i64 y.fr) ∧ w'.cell? ⟨w.heap.size + 1, 8, none⟩ = some (.slice y.aB y.bl.length y.cB) ∧ w'.cell? ⟨w.heap.size + 1, 9, none⟩ = some (.slice y.aC y.cl.length y.cC) ∧ w'.cell? ⟨w.heap.size + 1, 10, none⟩ = some (.slice y.aN y.LN.length y.cN)) w3.drew := ⟨(Below.refl _ _).drew, ca0, ca1, ca2, ca3, ca4, ca5, ca6, ca7, ca8, ca9, ca10, cy0, cy1, cy2, cy3, cy4, cy5, cy6, cy7, cy8, cy9, cy10⟩
  have HD := hide hD
  clear hD
  go_wp2_with fail
  clear ca0 ca1 ca2 ca3 ca4 ca5 ca6 ca7 ca8 ca9 ca10 cy0 cy1 cy2 cy3 cy4 cy5 cy6 cy7 cy8 cy9 cy10 lcy
  have lca : w.heap.size < w3.heap.size := by omega
  have lcy : w.heap.size + 1 < w3.heap.size := by omega
  go_region_held3 (fun w' => Below w3.heap.size w3 w' ∧ w'.cell? ⟨w.heap.size, 0, none⟩ = some (.bool x.up) ∧ w'.cell? ⟨w.heap.size, 1, none⟩ = some (.int .i64 x.now) ∧ w'.cell? ⟨w.heap.size, 2, none⟩ = some (.int .i64 x.su) ∧ w'.cell? ⟨w.heap.size, 3, none⟩ = some (.slice x.a1 x.D.words.length x.c1) ∧ w'.cell? ⟨w.heap.size, 4, none⟩ = some (.slice x.a2 x.D.flights.length x.c2) ∧ w'.cell? ⟨w.heap.size, 5, none⟩ = some (.slice x.a3 x.D.over.length x.c3) ∧ w'.cell? ⟨w.heap.size, 6, none⟩ = some (.slice x.aI x.LI.length x.cI) ∧ w'.cell? ⟨w.heap.size, 7, none⟩ = some (.int .i64 x.fr) ∧ w'.cell? ⟨w.heap.size, 8, none⟩ = some (.slice x.aB x.bl.length x.cB) ∧ w'.cell? ⟨w.heap.size, 9, none⟩ = some (.slice x.aC x.cl.length x.cC) ∧ w'.cell? ⟨w.heap.size, 10, none⟩ = some (.slice x.aN x.LN.length x.cN) ∧ w'.cell? ⟨w.heap.size + 1, 0, none⟩ = some (.bool y.up) ∧ w'.cell? ⟨w.heap.size + 1, 1, none⟩ = some (.int .i64 y.now) ∧ w'.cell? ⟨w.heap.size + 1, 2, none⟩ = some (.int .i64 y.su) ∧ w'.cell? ⟨w.heap.size + 1, 3, none⟩ = some (.slice y.a1 y.D.words.length y.c1) ∧ w'.cell? ⟨w.heap.size + 1, 4, none⟩ = some (.slice y.a2 y.D.flights.length y.c2) ∧ w'.cell? ⟨w.heap.size + 1, 5, none⟩ = some (.slice y.a3 y.D.over.length y.c3) ∧ w'.cell? ⟨w.heap.size + 1, 6, none⟩ = some (.slice y.aI y.LI.length y.cI) ∧ w'.cell? ⟨w.heap.size + 1, 7, none⟩ = some (.int .i64 y.fr) ∧ w'.cell? ⟨w.heap.size + 1, 8, none⟩ = some (.slice y.aB y.bl.length y.cB) ∧ w'.cell? ⟨w.heap.size + 1, 9, none⟩ = some (.slice y.aC y.cl.length y.cC) ∧ w'.cell? ⟨w.heap.size + 1, 10, none⟩ = some (.slice y.aN y.LN.length y.cN)) (first | exact unhide HD | assumption | exact keepC22 lca lca lca lca lca lca lca lca lca lca lca lcy lcy lcy lcy lcy lcy lcy lcy lcy lcy lcy (by assumption) (by assumption))
    (first
      | (go_at_call 51; (with_reducible refine (unhide HCX _ (left (by assumption))).mono ?_); rintro r w5 ⟨⟨z1, rfl, k1, s1⟩, hb5⟩; have K1 := hide k1; have S1 := hide s1; clear k1 s1)
      | (go_at_call 51; (with_reducible refine (unhide HCY _ (left (by assumption))).mono ?_); rintro r w5 ⟨⟨z2, rfl, k2, s2⟩, hb5⟩; have K2 := hide k2; have S2 := hide s2; clear k2 s2)
      | (go_at_call 63; refine (specSameStates_any z1 z2 _ (by first | exact unhide S1 | exact (unhide S1).below (by assumption)) (by first | exact unhide S2 | exact (unhide S2).below (by assumption)) (lx.like (unhide K1)) (ly.like (unhide K2))).mono ?_; rintro r w5 ⟨rfl, hb5⟩; rw [sameSta_like (unhide K1) (unhide K2)]))
  rename_i hS
  obtain ⟨sb, ca0, ca1, ca2, ca3, ca4, ca5, ca6, ca7, ca8, ca9, ca10, cy0, cy1, cy2, cy3, cy4, cy5, cy6, cy7, cy8, cy9, cy10⟩ := hS
  have A6 := hide ((unhide A4).below sb)
  have C6 := hide ((unhide C4).below sb)
  have P6 := hide ((unhide P3).below sb)
  have R6 := hide ((unhide R3).below sb)
  have B6 := hide (below_step (unhide B3) sb (by omega))
  have z6 := sb.size
  clear sb HCX HCY HD A4 C4 P3 R3 B3
  generalize hwn : w5 = w6 at *
  clear hwn
  have lca : w.heap.size < w6.heap.size := by omega
  have lcy : w.heap.size + 1 < w6.heap.size := by omega
  go_wp2_with fail
  clear ca0 ca1 ca2 ca3 ca4 ca5 ca6 ca7 ca8 ca9 ca10 cy0 cy1 cy2 cy3 cy4 cy5 cy6 cy7 cy8 cy9 cy10
  refine (toStateE_any x _ (unhide A6) lx).mono ?_
  rintro e w7 ⟨⟨u, rfl, ku, su⟩, hb⟩
  have z7 : w6.heap.size ≤ w7.heap.size := hb.size
  have A7 := hide ((unhide A6).below hb)
  have C7 := hide ((unhide C6).below hb)
  have P7 := hide ((unhide P6).below hb)
  have R7 := hide ((unhide R6).below hb)
  have B7 := hide (below_step (unhide B6) hb (by omega))
  clear hb B6 A6 C6 P6 R6
  have U7 := hide su
  have KU := hide ku
  clear su ku
  go_upto_region 10 with fail
  obtain ⟨W8, hW, z8, hbx, hx⟩ := boxes1 w7 [.bool u.up, .int .i64 u.now, .int .i64 u.su, .slice u.a1 u.D.words.length u.c1, .slice u.a2 u.D.flights.length u.c2, .slice u.a3 u.D.over.length u.c3, .slice u.aI u.LI.length u.cI, .int .i64 u.fr, .slice u.aB u.bl.length u.cB, .slice u.aC u.cl.length u.cC, .slice u.aN u.LN.length u.cN] 98
  rw [← hW]
  clear hW
  have A8 := hide ((unhide A7).below (unhide hbx))
  have C8 := hide ((unhide C7).below (unhide hbx))
  have P8 := hide ((unhide P7).below (unhide hbx))
  have R8 := hide ((unhide R7).below (unhide hbx))
  have U8 := hide ((unhide U7).below (unhide hbx))
  have B8 := hide (below_step (unhide B7) (unhide hbx) (by omega))
  have V8 := hx
  clear hbx hx B7 A7 C7 P7 R7 U7
  have u8 : w7.heap.size < W8.heap.size := by omega
  generalize w7.heap.size = b8 at *
  have cy0 := (unhide R8).cell 0
  have cy1 := (unhide R8).cell 1
  have cy2 := (unhide R8).cell 2
  have cy3 := (unhide R8).cell 3
  have cy4 := (unhide R8).cell 4
  have cy5 := (unhide R8).cell 5
  have cy6 := (unhide R8).cell 6
  have cy7 := (unhide R8).cell 7
  have cy8 := (unhide R8).cell 8
  have cy9 := (unhide R8).cell 9
  have cy10 := (unhide R8).cell 10
  simp only [List.getElem?_cons_zero, List.getElem?_cons_succ] at cy0 cy1 cy2 cy3 cy4 cy5 cy6 cy7 cy8 cy9 cy10
  have lcy : w.heap.size + 1 < W8.heap.size := by omega
  go_wp2_with fail
  clear cy0 cy1 cy2 cy3 cy4 cy5 cy6 cy7 cy8 cy9 cy10
  refine (toStateE_any y _ (unhide C8) ly).mono ?_
  rintro e w9 ⟨⟨v, rfl, kv, sv⟩, hb⟩
  have z9 : W8.heap.size ≤ w9.heap.size := hb.size
  have A9 := hide ((unhide A8).below hb)
  have C9 := hide ((unhide C8).below hb)
  have P9 := hide ((unhide P8).below hb)
  have R9 := hide ((unhide R8).below hb)
  have U9 := hide ((unhide U8).below hb)
  have V9 := hide ((unhide V8).below hb)
  have B9 := hide (below_step (unhide B8) hb (by omega))
  clear hb B8 A8 C8 P8 R8 U8 V8
  have Q9 := hide sv
  have KV := hide kv
  clear sv kv
  go_upto_region 11 with fail
  obtain ⟨W10, hW, z10, hbx, hx⟩ := boxes1 w9 [.bool v.up, .int .i64 v.now, .int .i64 v.su, .slice v.a1 v.D.words.length v.c1, .slice v.a2 v.D.flights.length v.c2, .slice v.a3 v.D.over.length v.c3, .slice v.aI v.LI.length v.cI, .int .i64 v.fr, .slice v.aB v.bl.length v.cB, .slice v.aC v.cl.length v.cC, .slice v.aN v.LN.length v.cN] 98
  rw [← hW]
  clear hW
  have A10 := hide ((unhide A9).below (unhide hbx))
  have C10 := hide ((unhide C9).below (unhide hbx))
  have P10 := hide ((unhide P9).below (unhide hbx))
  have R10 := hide ((unhide R9).below (unhide hbx))
  have U10 := hide ((unhide U9).below (unhide hbx))
  have V10 := hide ((unhide V9).below (unhide hbx))
  have Q10 := hide ((unhide Q9).below (unhide hbx))
  have B10 := hide (below_step (unhide B9) (unhide hbx) (by omega))
  have N10 := hx
  clear hbx hx B9 A9 C9 P9 R9 U9 V9 Q9
  have u10 : w9.heap.size < W10.heap.size := by omega
  generalize w9.heap.size = b10 at *
  have cu0 := (unhide V10).cell 0
  have cu1 := (unhide V10).cell 1
  have cu2 := (unhide V10).cell 2
  have cu3 := (unhide V10).cell 3
  have cu4 := (unhide V10).cell 4
  have cu5 := (unhide V10).cell 5
  have cu6 := (unhide V10).cell 6
  have cu7 := (unhide V10).cell 7
  have cu8 := (unhide V10).cell 8
  have cu9 := (unhide V10).cell 9
  have cu10 := (unhide V10).cell 10
  simp only [List.getElem?_cons_zero, List.getElem?_cons_succ] at cu0 cu1 cu2 cu3 cu4 cu5 cu6 cu7 cu8 cu9 cu10
  have cv0 := (unhide N10).cell 0
  have cv1 := (unhide N10).cell 1
  have cv2 := (unhide N10).cell 2
  have cv3 := (unhide N10).cell 3
  have cv4 := (unhide N10).cell 4
  have cv5 := (unhide N10).cell 5
  have cv6 := (unhide N10).cell 6
  have cv7 := (unhide N10).cell 7
  have cv8 := (unhide N10).cell 8
  have cv9 := (unhide N10).cell 9
  have cv10 := (unhide N10).cell 10
  simp only [List.getElem?_cons_zero, List.getElem?_cons_succ] at cv0 cv1 cv2 cv3 cv4 cv5 cv6 cv7 cv8 cv9 cv10
  have lcu : b8 < W10.heap.size := by omega
  go_wp2_with fail
  clear cu0 cu1 cu2 cu3 cu4 cu5 cu6 cu7 cu8 cu9 cu10 cv0 cv1 cv2 cv3 cv4 cv5 cv6 cv7 cv8 cv9 cv10
  refine (implSameStates_any u v _ (unhide U10) (unhide Q10) (lx.like (unhide KU)) (ly.like (unhide KV))).mono ?_
  rintro e w11 ⟨rfl, hb⟩
  rw [sameSta_like (unhide KU) (unhide KV)]
  have z11 : W10.heap.size ≤ w11.heap.size := hb.size
  have A11 := hide ((unhide A10).below hb)
  have C11 := hide ((unhide C10).below hb)
  have P11 := hide ((unhide P10).below hb)
  have R11 := hide ((unhide R10).below hb)
  have U11 := hide ((unhide U10).below hb)
  have V11 := hide ((unhide V10).below hb)
  have Q11 := hide ((unhide Q10).below hb)
  have N11 := hide ((unhide N10).below hb)
  have B11 := hide (below_step (unhide B10) hb (by omega))
  clear hb B10 A10 C10 P10 R10 U10 V10 Q10 N10
  have hvv : (sameSta x y != sameSta x y) = false := by cases sameSta x y <;> rfl

  have HC11 : Hid (∀ w0, Below w11.heap.size w11 w0 → Calls Try.prog 51 #[.agg #[.bool x.up, .int .i64 x.now, .int .i64 x.su, .slice x.a1 x.D.words.length x.c1, .slice x.a2 x.D.flights.length x.c2, .slice x.a3 x.D.over.length x.c3, .slice x.aI x.LI.length x.cI, .int .i64 x.fr, .slice x.aB x.bl.length x.cB, .slice x.aC x.cl.length x.cC, .slice x.aN x.LN.length x.cN]] w0 fun r w' => (∃ z : StaA, r = .returned (.agg #[.bool z.up, .int .i64 z.now, .int .i64 z.su, .slice z.a1 z.D.words.length z.c1, .slice z.a2 z.D.flights.length z.c2, .slice z.a3 z.D.over.length z.c3, .slice z.aI z.LI.length z.cI, .int .i64 z.fr, .slice z.aB z.bl.length z.cB, .slice z.aC z.cl.length z.cC, .slice z.aN z.LN.length z.cN]) ∧ z.like x ∧ z.side w') ∧ Below w0.heap.size w0 w') := fun w0 hb => toStateE_any x w0 ((unhide A11).below hb) lx
  have ca0 := (unhide P11).cell 0
  have ca1 := (unhide P11).cell 1
  have ca2 := (unhide P11).cell 2
  have ca3 := (unhide P11).cell 3
  have ca4 := (unhide P11).cell 4
  have ca5 := (unhide P11).cell 5
  have ca6 := (unhide P11).cell 6
  have ca7 := (unhide P11).cell 7
  have ca8 := (unhide P11).cell 8
  have ca9 := (unhide P11).cell 9
  have ca10 := (unhide P11).cell 10
  simp only [List.getElem?_cons_zero, List.getElem?_cons_succ] at ca0 ca1 ca2 ca3 ca4 ca5 ca6 ca7 ca8 ca9 ca10
  have cu0 := (unhide V11).cell 0
  have cu1 := (unhide V11).cell 1
  have cu2 := (unhide V11).cell 2
  have cu3 := (unhide V11).cell 3
  have cu4 := (unhide V11).cell 4
  have cu5 := (unhide V11).cell 5
  have cu6 := (unhide V11).cell 6
  have cu7 := (unhide V11).cell 7
  have cu8 := (unhide V11).cell 8
  have cu9 := (unhide V11).cell 9
  have cu10 := (unhide V11).cell 10
  simp only [List.getElem?_cons_zero, List.getElem?_cons_succ] at cu0 cu1 cu2 cu3 cu4 cu5 cu6 cu7 cu8 cu9 cu10
  have hD : (fun w' => Below w11.heap.size w11 w' ∧ w'.cell? ⟨w.heap.size, 0, none⟩ = some (.bool x.up) ∧ w'.cell? ⟨w.heap.size, 1, none⟩ = some (.int .i64 x.now) ∧ w'.cell? ⟨w.heap.size, 2, none⟩ = some (.int .i64 x.su) ∧ w'.cell? ⟨w.heap.size, 3, none⟩ = some (.slice x.a1 x.D.words.length x.c1) ∧ w'.cell? ⟨w.heap.size, 4, none⟩ = some (.slice x.a2 x.D.flights.length x.c2) ∧ w'.cell? ⟨w.heap.size, 5, none⟩ = some (.slice x.a3 x.D.over.length x.c3) ∧ w'.cell? ⟨w.heap.size, 6, none⟩ = some (.slice x.aI x.LI.length x.cI) ∧ w'.cell? ⟨w.heap.size, 7, none⟩ = some (.int .i64 x.fr) ∧ w'.cell? ⟨w.heap.size, 8, none⟩ = some (.slice x.aB x.bl.length x.cB) ∧ w'.cell? ⟨w.heap.size, 9, none⟩ = some (.slice x.aC x.cl.length x.cC) ∧ w'.cell? ⟨w.heap.size, 10, none⟩ = some (.slice x.aN x.LN.length x.cN) ∧ w'.cell? ⟨b8, 0, none⟩ = some (.bool u.up) ∧ w'.cell? ⟨b8, 1, none⟩ = some (.int .i64 u.now) ∧ w'.cell? ⟨b8, 2, none⟩ = some (.int .i64 u.su) ∧ w'.cell? ⟨b8, 3, none⟩ = some (.slice u.a1 u.D.words.length u.c1) ∧ w'.cell? ⟨b8, 4, none⟩ = some (.slice u.a2 u.D.flights.length u.c2) ∧ w'.cell? ⟨b8, 5, none⟩ = some (.slice u.a3 u.D.over.length u.c3) ∧ w'.cell? ⟨b8, 6, none⟩ = some (.slice u.aI u.LI.length u.cI) ∧ w'.cell? ⟨b8, 7, none⟩ = some (.int .i64 u.fr) ∧ w'.cell? ⟨b8, 8, none⟩ = some (.slice u.aB u.bl.length u.cB) ∧ w'.cell? ⟨b8, 9, none⟩ = some (.slice u.aC u.cl.length u.cC) ∧ w'.cell? ⟨b8, 10, none⟩ = some (.slice u.aN u.LN.length u.cN)) w11.drew := ⟨(Below.refl _ _).drew, ca0, ca1, ca2, ca3, ca4, ca5, ca6, ca7, ca8, ca9, ca10, cu0, cu1, cu2, cu3, cu4, cu5, cu6, cu7, cu8, cu9, cu10⟩
  have HD := hide hD
  clear hD
  have lca : w.heap.size < w11.heap.size := by omega
  have lcu : b8 < w11.heap.size := by omega
  go_wp2_with fail
  clear ca0 ca1 ca2 ca3 ca4 ca5 ca6 ca7 ca8 ca9 ca10 cu0 cu1 cu2 cu3 cu4 cu5 cu6 cu7 cu8 cu9 cu10
  go_region_held3 (fun w' => Below w11.heap.size w11 w' ∧ w'.cell? ⟨w.heap.size, 0, none⟩ = some (.bool x.up) ∧ w'.cell? ⟨w.heap.size, 1, none⟩ = some (.int .i64 x.now) ∧ w'.cell? ⟨w.heap.size, 2, none⟩ = some (.int .i64 x.su) ∧ w'.cell? ⟨w.heap.size, 3, none⟩ = some (.slice x.a1 x.D.words.length x.c1) ∧ w'.cell? ⟨w.heap.size, 4, none⟩ = some (.slice x.a2 x.D.flights.length x.c2) ∧ w'.cell? ⟨w.heap.size, 5, none⟩ = some (.slice x.a3 x.D.over.length x.c3) ∧ w'.cell? ⟨w.heap.size, 6, none⟩ = some (.slice x.aI x.LI.length x.cI) ∧ w'.cell? ⟨w.heap.size, 7, none⟩ = some (.int .i64 x.fr) ∧ w'.cell? ⟨w.heap.size, 8, none⟩ = some (.slice x.aB x.bl.length x.cB) ∧ w'.cell? ⟨w.heap.size, 9, none⟩ = some (.slice x.aC x.cl.length x.cC) ∧ w'.cell? ⟨w.heap.size, 10, none⟩ = some (.slice x.aN x.LN.length x.cN) ∧ w'.cell? ⟨b8, 0, none⟩ = some (.bool u.up) ∧ w'.cell? ⟨b8, 1, none⟩ = some (.int .i64 u.now) ∧ w'.cell? ⟨b8, 2, none⟩ = some (.int .i64 u.su) ∧ w'.cell? ⟨b8, 3, none⟩ = some (.slice u.a1 u.D.words.length u.c1) ∧ w'.cell? ⟨b8, 4, none⟩ = some (.slice u.a2 u.D.flights.length u.c2) ∧ w'.cell? ⟨b8, 5, none⟩ = some (.slice u.a3 u.D.over.length u.c3) ∧ w'.cell? ⟨b8, 6, none⟩ = some (.slice u.aI u.LI.length u.cI) ∧ w'.cell? ⟨b8, 7, none⟩ = some (.int .i64 u.fr) ∧ w'.cell? ⟨b8, 8, none⟩ = some (.slice u.aB u.bl.length u.cB) ∧ w'.cell? ⟨b8, 9, none⟩ = some (.slice u.aC u.cl.length u.cC) ∧ w'.cell? ⟨b8, 10, none⟩ = some (.slice u.aN u.LN.length u.cN)) (first | exact unhide HD | assumption | exact keepC22 lca lca lca lca lca lca lca lca lca lca lca lcu lcu lcu lcu lcu lcu lcu lcu lcu lcu lcu (by assumption) (by assumption))
    (first
      | (go_at_call 51; (with_reducible refine (unhide HC11 _ (left (by assumption))).mono ?_); rintro r w5 ⟨⟨z1, rfl, k1, s1⟩, hb5⟩; have K1 := hide k1; have S1 := hide s1; clear k1 s1)
      | (go_at_call 54; refine (eqState_same u z1 _ ((unhide U11).below (left (by assumption))) (by first | exact unhide S1 | exact (unhide S1).below (by assumption)) (lx.like (unhide KU)) (like_both (unhide KU) (unhide K1))).mono ?_; rintro r w5 ⟨rfl, hb5⟩))
  rename_i hS
  have hbS := left hS
  have A12 := hide ((unhide A11).below hbS)
  have C12 := hide ((unhide C11).below hbS)
  have P12 := hide ((unhide P11).below hbS)
  have R12 := hide ((unhide R11).below hbS)
  have U12 := hide ((unhide U11).below hbS)
  have V12 := hide ((unhide V11).below hbS)
  have Q12 := hide ((unhide Q11).below hbS)
  have N12 := hide ((unhide N11).below hbS)
  have B12 := hide (below_step (unhide B11) hbS (by omega))
  have z12 := hbS.size
  clear hS hbS HD HC11 B11 A11 C11 P11 R11 U11 V11 Q11 N11
  generalize hwn : w5 = w12 at *
  clear hwn lca lcu
  have lcv : b10 < w12.heap.size := by omega
  have HC12 : Hid (∀ w0, Below w12.heap.size w12 w0 → Calls Try.prog 51 #[.agg #[.bool y.up, .int .i64 y.now, .int .i64 y.su, .slice y.a1 y.D.words.length y.c1, .slice y.a2 y.D.flights.length y.c2, .slice y.a3 y.D.over.length y.c3, .slice y.aI y.LI.length y.cI, .int .i64 y.fr, .slice y.aB y.bl.length y.cB, .slice y.aC y.cl.length y.cC, .slice y.aN y.LN.length y.cN]] w0 fun r w' => (∃ z : StaA, r = .returned (.agg #[.bool z.up, .int .i64 z.now, .int .i64 z.su, .slice z.a1 z.D.words.length z.c1, .slice z.a2 z.D.flights.length z.c2, .slice z.a3 z.D.over.length z.c3, .slice z.aI z.LI.length z.cI, .int .i64 z.fr, .slice z.aB z.bl.length z.cB, .slice z.aC z.cl.length z.cC, .slice z.aN z.LN.length z.cN]) ∧ z.like y ∧ z.side w') ∧ Below w0.heap.size w0 w') := fun w0 hb => toStateE_any y w0 ((unhide C12).below hb) ly
  have ca0 := (unhide R12).cell 0
  have ca1 := (unhide R12).cell 1
  have ca2 := (unhide R12).cell 2
  have ca3 := (unhide R12).cell 3
  have ca4 := (unhide R12).cell 4
  have ca5 := (unhide R12).cell 5
  have ca6 := (unhide R12).cell 6
  have ca7 := (unhide R12).cell 7
  have ca8 := (unhide R12).cell 8
  have ca9 := (unhide R12).cell 9
  have ca10 := (unhide R12).cell 10
  simp only [List.getElem?_cons_zero, List.getElem?_cons_succ] at ca0 ca1 ca2 ca3 ca4 ca5 ca6 ca7 ca8 ca9 ca10
  have cu0 := (unhide N12).cell 0
  have cu1 := (unhide N12).cell 1
  have cu2 := (unhide N12).cell 2
  have cu3 := (unhide N12).cell 3
  have cu4 := (unhide N12).cell 4
  have cu5 := (unhide N12).cell 5
  have cu6 := (unhide N12).cell 6
  have cu7 := (unhide N12).cell 7
  have cu8 := (unhide N12).cell 8
  have cu9 := (unhide N12).cell 9
  have cu10 := (unhide N12).cell 10
  simp only [List.getElem?_cons_zero, List.getElem?_cons_succ] at cu0 cu1 cu2 cu3 cu4 cu5 cu6 cu7 cu8 cu9 cu10
  have hD : (fun w' => Below w12.heap.size w12 w' ∧ w'.cell? ⟨w.heap.size + 1, 0, none⟩ = some (.bool y.up) ∧ w'.cell? ⟨w.heap.size + 1, 1, none⟩ = some (.int .i64 y.now) ∧ w'.cell? ⟨w.heap.size + 1, 2, none⟩ = some (.int .i64 y.su) ∧ w'.cell? ⟨w.heap.size + 1, 3, none⟩ = some (.slice y.a1 y.D.words.length y.c1) ∧ w'.cell? ⟨w.heap.size + 1, 4, none⟩ = some (.slice y.a2 y.D.flights.length y.c2) ∧ w'.cell? ⟨w.heap.size + 1, 5, none⟩ = some (.slice y.a3 y.D.over.length y.c3) ∧ w'.cell? ⟨w.heap.size + 1, 6, none⟩ = some (.slice y.aI y.LI.length y.cI) ∧ w'.cell? ⟨w.heap.size + 1, 7, none⟩ = some (.int .i64 y.fr) ∧ w'.cell? ⟨w.heap.size + 1, 8, none⟩ = some (.slice y.aB y.bl.length y.cB) ∧ w'.cell? ⟨w.heap.size + 1, 9, none⟩ = some (.slice y.aC y.cl.length y.cC) ∧ w'.cell? ⟨w.heap.size + 1, 10, none⟩ = some (.slice y.aN y.LN.length y.cN) ∧ w'.cell? ⟨b10, 0, none⟩ = some (.bool v.up) ∧ w'.cell? ⟨b10, 1, none⟩ = some (.int .i64 v.now) ∧ w'.cell? ⟨b10, 2, none⟩ = some (.int .i64 v.su) ∧ w'.cell? ⟨b10, 3, none⟩ = some (.slice v.a1 v.D.words.length v.c1) ∧ w'.cell? ⟨b10, 4, none⟩ = some (.slice v.a2 v.D.flights.length v.c2) ∧ w'.cell? ⟨b10, 5, none⟩ = some (.slice v.a3 v.D.over.length v.c3) ∧ w'.cell? ⟨b10, 6, none⟩ = some (.slice v.aI v.LI.length v.cI) ∧ w'.cell? ⟨b10, 7, none⟩ = some (.int .i64 v.fr) ∧ w'.cell? ⟨b10, 8, none⟩ = some (.slice v.aB v.bl.length v.cB) ∧ w'.cell? ⟨b10, 9, none⟩ = some (.slice v.aC v.cl.length v.cC) ∧ w'.cell? ⟨b10, 10, none⟩ = some (.slice v.aN v.LN.length v.cN)) w12.drew := ⟨(Below.refl _ _).drew, ca0, ca1, ca2, ca3, ca4, ca5, ca6, ca7, ca8, ca9, ca10, cu0, cu1, cu2, cu3, cu4, cu5, cu6, cu7, cu8, cu9, cu10⟩
  have HD := hide hD
  clear hD
  have lca : w.heap.size + 1 < w12.heap.size := by omega
  have lcu : b10 < w12.heap.size := by omega
  go_wp2_with fail
  clear ca0 ca1 ca2 ca3 ca4 ca5 ca6 ca7 ca8 ca9 ca10 cu0 cu1 cu2 cu3 cu4 cu5 cu6 cu7 cu8 cu9 cu10
  go_region_held3 (fun w' => Below w12.heap.size w12 w' ∧ w'.cell? ⟨w.heap.size + 1, 0, none⟩ = some (.bool y.up) ∧ w'.cell? ⟨w.heap.size + 1, 1, none⟩ = some (.int .i64 y.now) ∧ w'.cell? ⟨w.heap.size + 1, 2, none⟩ = some (.int .i64 y.su) ∧ w'.cell? ⟨w.heap.size + 1, 3, none⟩ = some (.slice y.a1 y.D.words.length y.c1) ∧ w'.cell? ⟨w.heap.size + 1, 4, none⟩ = some (.slice y.a2 y.D.flights.length y.c2) ∧ w'.cell? ⟨w.heap.size + 1, 5, none⟩ = some (.slice y.a3 y.D.over.length y.c3) ∧ w'.cell? ⟨w.heap.size + 1, 6, none⟩ = some (.slice y.aI y.LI.length y.cI) ∧ w'.cell? ⟨w.heap.size + 1, 7, none⟩ = some (.int .i64 y.fr) ∧ w'.cell? ⟨w.heap.size + 1, 8, none⟩ = some (.slice y.aB y.bl.length y.cB) ∧ w'.cell? ⟨w.heap.size + 1, 9, none⟩ = some (.slice y.aC y.cl.length y.cC) ∧ w'.cell? ⟨w.heap.size + 1, 10, none⟩ = some (.slice y.aN y.LN.length y.cN) ∧ w'.cell? ⟨b10, 0, none⟩ = some (.bool v.up) ∧ w'.cell? ⟨b10, 1, none⟩ = some (.int .i64 v.now) ∧ w'.cell? ⟨b10, 2, none⟩ = some (.int .i64 v.su) ∧ w'.cell? ⟨b10, 3, none⟩ = some (.slice v.a1 v.D.words.length v.c1) ∧ w'.cell? ⟨b10, 4, none⟩ = some (.slice v.a2 v.D.flights.length v.c2) ∧ w'.cell? ⟨b10, 5, none⟩ = some (.slice v.a3 v.D.over.length v.c3) ∧ w'.cell? ⟨b10, 6, none⟩ = some (.slice v.aI v.LI.length v.cI) ∧ w'.cell? ⟨b10, 7, none⟩ = some (.int .i64 v.fr) ∧ w'.cell? ⟨b10, 8, none⟩ = some (.slice v.aB v.bl.length v.cB) ∧ w'.cell? ⟨b10, 9, none⟩ = some (.slice v.aC v.cl.length v.cC) ∧ w'.cell? ⟨b10, 10, none⟩ = some (.slice v.aN v.LN.length v.cN)) (first | exact unhide HD | assumption | exact keepC22 lca lca lca lca lca lca lca lca lca lca lca lcu lcu lcu lcu lcu lcu lcu lcu lcu lcu lcu (by assumption) (by assumption))
    (first
      | (go_at_call 51; (with_reducible refine (unhide HC12 _ (left (by assumption))).mono ?_); rintro r w5 ⟨⟨z1, rfl, k1, s1⟩, hb5⟩; have K1 := hide k1; have S1 := hide s1; clear k1 s1)
      | (go_at_call 54; refine (eqState_same v z1 _ ((unhide Q12).below (left (by assumption))) (by first | exact unhide S1 | exact (unhide S1).below (by assumption)) (ly.like (unhide KV)) (like_both (unhide KV) (unhide K1))).mono ?_; rintro r w5 ⟨rfl, hb5⟩))
  rename_i hS
  have hbS := left hS
  have A13 := hide ((unhide A12).below hbS)
  have C13 := hide ((unhide C12).below hbS)
  have P13 := hide ((unhide P12).below hbS)
  have R13 := hide ((unhide R12).below hbS)
  have U13 := hide ((unhide U12).below hbS)
  have V13 := hide ((unhide V12).below hbS)
  have Q13 := hide ((unhide Q12).below hbS)
  have N13 := hide ((unhide N12).below hbS)
  have B13 := hide (below_step (unhide B12) hbS (by omega))
  have z13 := hbS.size
  clear hS hbS HD HC12 B12 A12 C12 P12 R12 U12 V12 Q12 N12
  generalize hwn : w5 = w13 at *
  clear hwn lca lcu
  go_wp2_with fail
  go_ret
  exact ⟨rfl, unhide B13⟩
end fnExactSameStates
end Go.Proofs.Ytdnfadbkpajloaa
