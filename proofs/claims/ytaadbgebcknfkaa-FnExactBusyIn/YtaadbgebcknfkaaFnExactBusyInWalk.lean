/-
  The walk of laws.FnExactBusyIn: it returns true, and writes nothing that was there.
-/
import Derived.Test.YtaadbgebcknfkaaStateMark
import Derived.Test.YtaadbgebcknfkaaBusyWalk
import Derived.Test.YtaadbgebcknfkaaIntResWalk
import Derived.Deep.RegionHeld3
import Derived.Deep.CutRange
namespace Go.Proofs.Ytaadbgebcknfkaa
open Go.RowKit
set_option linter.unusedVariables false
theorem toStateO_any (x : StaA) (w : World) (h : x.side w) (hl : x.lens 1048576) :
    Calls Try.prog 23 #[.agg #[.bool x.up, .int .i64 x.now, .int .i64 x.su, .slice x.a1 x.D.words.length x.c1, .slice x.a2 x.D.flights.length x.c2, .slice x.a3 x.D.over.length x.c3, .slice x.aI x.LI.length x.cI, .int .i64 x.fr, .slice x.aB x.bl.length x.cB, .slice x.aC x.cl.length x.cC, .slice x.aN x.LN.length x.cN]] w fun r w' => (∃ y : StaA, r = .returned (.agg #[.bool y.up, .int .i64 y.now, .int .i64 y.su, .slice y.a1 y.D.words.length y.c1, .slice y.a2 y.D.flights.length y.c2, .slice y.a3 y.D.over.length y.c3, .slice y.aI y.LI.length y.cI, .int .i64 y.fr, .slice y.aB y.bl.length y.cB, .slice y.aC y.cl.length y.cC, .slice y.aN y.LN.length y.cN]) ∧ y.like x ∧ y.own w.heap.size w') ∧ Below w.heap.size w w' :=
  (toState_own x w h hl).mono fun _ _ ⟨⟨y, h1, h2⟩, hb⟩ => ⟨⟨y, h1, h2⟩, hb⟩
namespace fnExactBusyIn
theorem left {W0 w' : World} {p : Prop} (h : Below W0.heap.size W0 w' ∧ p) : Below W0.heap.size W0 w' := h.1
theorem like_both {x y z : StaA} (h : x.like z) (k : y.like z) : x.like y := ⟨h.up.trans k.up.symm, h.now.trans k.now.symm, h.su.trans k.su.symm, h.D.trans k.D.symm, h.LI.trans k.LI.symm, h.fr.trans k.fr.symm, h.bl.trans k.bl.symm, h.cl.trans k.cl.symm, h.LN.trans k.LN.symm⟩
theorem keepC22 {W0 w' w1 : World} {b0 b1 b2 b3 b4 b5 b6 b7 b8 b9 b10 b11 b12 b13 b14 b15 b16 b17 b18 b19 b20 b21 o0 o1 o2 o3 o4 o5 o6 o7 o8 o9 o10 o11 o12 o13 o14 o15 o16 o17 o18 o19 o20 o21 : Nat} {v0 v1 v2 v3 v4 v5 v6 v7 v8 v9 v10 v11 v12 v13 v14 v15 v16 v17 v18 v19 v20 v21 : Value} (h0 : b0 < W0.heap.size) (h1 : b1 < W0.heap.size) (h2 : b2 < W0.heap.size) (h3 : b3 < W0.heap.size) (h4 : b4 < W0.heap.size) (h5 : b5 < W0.heap.size) (h6 : b6 < W0.heap.size) (h7 : b7 < W0.heap.size) (h8 : b8 < W0.heap.size) (h9 : b9 < W0.heap.size) (h10 : b10 < W0.heap.size) (h11 : b11 < W0.heap.size) (h12 : b12 < W0.heap.size) (h13 : b13 < W0.heap.size) (h14 : b14 < W0.heap.size) (h15 : b15 < W0.heap.size) (h16 : b16 < W0.heap.size) (h17 : b17 < W0.heap.size) (h18 : b18 < W0.heap.size) (h19 : b19 < W0.heap.size) (h20 : b20 < W0.heap.size) (h21 : b21 < W0.heap.size) (hS : Below W0.heap.size W0 w' ∧ w'.cell? ⟨b0, o0, none⟩ = some v0 ∧ w'.cell? ⟨b1, o1, none⟩ = some v1 ∧ w'.cell? ⟨b2, o2, none⟩ = some v2 ∧ w'.cell? ⟨b3, o3, none⟩ = some v3 ∧ w'.cell? ⟨b4, o4, none⟩ = some v4 ∧ w'.cell? ⟨b5, o5, none⟩ = some v5 ∧ w'.cell? ⟨b6, o6, none⟩ = some v6 ∧ w'.cell? ⟨b7, o7, none⟩ = some v7 ∧ w'.cell? ⟨b8, o8, none⟩ = some v8 ∧ w'.cell? ⟨b9, o9, none⟩ = some v9 ∧ w'.cell? ⟨b10, o10, none⟩ = some v10 ∧ w'.cell? ⟨b11, o11, none⟩ = some v11 ∧ w'.cell? ⟨b12, o12, none⟩ = some v12 ∧ w'.cell? ⟨b13, o13, none⟩ = some v13 ∧ w'.cell? ⟨b14, o14, none⟩ = some v14 ∧ w'.cell? ⟨b15, o15, none⟩ = some v15 ∧ w'.cell? ⟨b16, o16, none⟩ = some v16 ∧ w'.cell? ⟨b17, o17, none⟩ = some v17 ∧ w'.cell? ⟨b18, o18, none⟩ = some v18 ∧ w'.cell? ⟨b19, o19, none⟩ = some v19 ∧ w'.cell? ⟨b20, o20, none⟩ = some v20 ∧ w'.cell? ⟨b21, o21, none⟩ = some v21) (hb : Below w'.heap.size w' w1) : Below W0.heap.size W0 w1 ∧ w1.cell? ⟨b0, o0, none⟩ = some v0 ∧ w1.cell? ⟨b1, o1, none⟩ = some v1 ∧ w1.cell? ⟨b2, o2, none⟩ = some v2 ∧ w1.cell? ⟨b3, o3, none⟩ = some v3 ∧ w1.cell? ⟨b4, o4, none⟩ = some v4 ∧ w1.cell? ⟨b5, o5, none⟩ = some v5 ∧ w1.cell? ⟨b6, o6, none⟩ = some v6 ∧ w1.cell? ⟨b7, o7, none⟩ = some v7 ∧ w1.cell? ⟨b8, o8, none⟩ = some v8 ∧ w1.cell? ⟨b9, o9, none⟩ = some v9 ∧ w1.cell? ⟨b10, o10, none⟩ = some v10 ∧ w1.cell? ⟨b11, o11, none⟩ = some v11 ∧ w1.cell? ⟨b12, o12, none⟩ = some v12 ∧ w1.cell? ⟨b13, o13, none⟩ = some v13 ∧ w1.cell? ⟨b14, o14, none⟩ = some v14 ∧ w1.cell? ⟨b15, o15, none⟩ = some v15 ∧ w1.cell? ⟨b16, o16, none⟩ = some v16 ∧ w1.cell? ⟨b17, o17, none⟩ = some v17 ∧ w1.cell? ⟨b18, o18, none⟩ = some v18 ∧ w1.cell? ⟨b19, o19, none⟩ = some v19 ∧ w1.cell? ⟨b20, o20, none⟩ = some v20 ∧ w1.cell? ⟨b21, o21, none⟩ = some v21 := by
  obtain ⟨h, d0, d1, d2, d3, d4, d5, d6, d7, d8, d9, d10, d11, d12, d13, d14, d15, d16, d17, d18, d19, d20, d21⟩ := hS
  have hz := h.size
  exact ⟨h.trans (hb.mono hz), ((bcell hb).1 _ _ (by omega)).trans d0, ((bcell hb).1 _ _ (by omega)).trans d1, ((bcell hb).1 _ _ (by omega)).trans d2, ((bcell hb).1 _ _ (by omega)).trans d3, ((bcell hb).1 _ _ (by omega)).trans d4, ((bcell hb).1 _ _ (by omega)).trans d5, ((bcell hb).1 _ _ (by omega)).trans d6, ((bcell hb).1 _ _ (by omega)).trans d7, ((bcell hb).1 _ _ (by omega)).trans d8, ((bcell hb).1 _ _ (by omega)).trans d9, ((bcell hb).1 _ _ (by omega)).trans d10, ((bcell hb).1 _ _ (by omega)).trans d11, ((bcell hb).1 _ _ (by omega)).trans d12, ((bcell hb).1 _ _ (by omega)).trans d13, ((bcell hb).1 _ _ (by omega)).trans d14, ((bcell hb).1 _ _ (by omega)).trans d15, ((bcell hb).1 _ _ (by omega)).trans d16, ((bcell hb).1 _ _ (by omega)).trans d17, ((bcell hb).1 _ _ (by omega)).trans d18, ((bcell hb).1 _ _ (by omega)).trans d19, ((bcell hb).1 _ _ (by omega)).trans d20, ((bcell hb).1 _ _ (by omega)).trans d21⟩
set_option maxRecDepth 20000 in
set_option maxHeartbeats 16000000 in
theorem walk (x : StaA) (w : World) (h : x.sideR w) (hl : x.lens maxLen) :
    Calls Try.prog 5 #[.agg #[.bool x.up, .int .i64 x.now, .int .i64 x.su, .slice x.a1 x.D.words.length x.c1, .slice x.a2 x.D.flights.length x.c2, .slice x.a3 x.D.over.length x.c3, .slice x.aI x.LI.length x.cI, .int .i64 x.fr, .slice x.aB x.bl.length x.cB, .slice x.aC x.cl.length x.cC, .slice x.aN x.LN.length x.cN]] w fun r w' => r = .returned (.bool true) ∧ Below w.heap.size w w' := by
  obtain ⟨W1, hW, hWz, hbx, hx⟩ := boxes1 w [.bool x.up, .int .i64 x.now, .int .i64 x.su, .slice x.a1 x.D.words.length x.c1, .slice x.a2 x.D.flights.length x.c2, .slice x.a3 x.D.over.length x.c3, .slice x.aI x.LI.length x.cI, .int .i64 x.fr, .slice x.aB x.bl.length x.cB, .slice x.aC x.cl.length x.cC, .slice x.aN x.LN.length x.cN] 59
  go_enter Try.func5, Try.ntmps5
  go_wp2_with fail
  rw [← hW]
  clear hW
  have A0 := hide (h.below (unhide hbx))
  have AR := hide h
  have P0 := hx
  have B0 := hbx
  clear hx hbx h
  refine (szState_any x 1048576 _ (by omega) (by omega) (unhide A0) hl).mono ?_
  rintro e w1 ⟨⟨r, rfl, hr⟩, hb⟩
  have z1 : W1.heap.size ≤ w1.heap.size := hb.size
  have A1 := hide ((unhide A0).below hb)
  have P1 := hide ((unhide P0).below hb)
  have B1 := hide (below_step (unhide B0) hb (by omega))
  clear hb A0 P0 B0
  by_cases hv : r < 0
  · clear hr
    go_wp2_with fail
    go_ret
    exact ⟨rfl, unhide B1⟩
  obtain ⟨r0, r1, lx, ix⟩ : 0 ≤ r ∧ r ≤ 1048576 ∧ x.lens 1048576 ∧ x.inner := by
    rcases hr with h | h
    · omega
    · exact h
  clear hr hl
  have A1' := hide ((unhide A1).toSide ix)
  have AZ := hide ((unhide AR).toSide ix)
  have hbl : x.bl.length ≤ 1048576 := (StaA.lensB lx).2.2.2.2.1
  have hLn := busyNums_len x.bl
  clear A1
  have ca0 := (unhide P1).cell 0
  have ca1 := (unhide P1).cell 1
  have ca2 := (unhide P1).cell 2
  have ca3 := (unhide P1).cell 3
  have ca4 := (unhide P1).cell 4
  have ca5 := (unhide P1).cell 5
  have ca6 := (unhide P1).cell 6
  have ca7 := (unhide P1).cell 7
  have ca8 := (unhide P1).cell 8
  have ca9 := (unhide P1).cell 9
  have ca10 := (unhide P1).cell 10
  simp only [List.getElem?_cons_zero, List.getElem?_cons_succ] at ca0 ca1 ca2 ca3 ca4 ca5 ca6 ca7 ca8 ca9 ca10
  have lca : w.heap.size < w1.heap.size := by omega
  go_wp2_with fail
  clear ca0 ca1 ca2 ca3 ca4 ca5 ca6 ca7 ca8 ca9 ca10 lca
  refine (toStateO_any x _ (unhide A1') lx).mono ?_
  rintro e w2 ⟨⟨y0, rfl, k0, hO⟩, hb⟩
  have z2 : w1.heap.size ≤ w2.heap.size := hb.size
  have A2 := hide ((unhide A1').below hb)
  have P2 := hide ((unhide P1).below hb)
  have B2 := hide (below_step (unhide B1) hb (by omega))
  clear hb A1' P1 B1
  have Ey0 := hide k0.bl
  have Ky0 := hide k0
  clear k0
  have Y0 := hide hO.side
  clear hO
  go_wp2_with fail
  refine (specBusyIn_any y0 _ (unhide Y0).bs (by rw [unhide Ey0]; exact hbl)).mono ?_
  rintro e w3 ⟨⟨aq, cq, rfl, hO⟩, hb⟩
  have z3 : w2.heap.size ≤ w3.heap.size := hb.size
  have A3 := hide ((unhide A2).below hb)
  have P3 := hide ((unhide P2).below hb)
  have Y3 := hide ((unhide Y0).below hb)
  have B3 := hide (below_step (unhide B2) hb (by omega))
  clear hb A2 P2 Y0 B2
  rw [unhide Ey0] at hO ⊢
  generalize hcd : busyCode x.bl = cd at *
  generalize hLL : busyNums x.bl = L at *
  have HCD := hide hcd
  have HLL := hide hLL
  clear hcd hLL
  have S_ := hide hO
  have LS := hide (fun q hq => hO.lt q hq)
  clear hO
  clear Y3
  go_upto_region 6 with fail
  obtain ⟨W4, hW, z4, hbx, hx⟩ := boxes1 w3 [.int .i64 cd, .slice aq L.length cq] 62
  rw [← hW]
  clear hW
  have A4 := hide ((unhide A3).below (unhide hbx))
  have P4 := hide ((unhide P3).below (unhide hbx))
  have S4 := hide (own_below (unhide S_) (unhide hbx))
  have B4 := hide (below_step (unhide B3) (unhide hbx) (by omega))
  clear A3 P3 S_ B3
  have R4 := hx
  clear hbx hx
  have u4 : w3.heap.size < W4.heap.size := by omega
  generalize w3.heap.size = bR at *
  have ca0 := (unhide P4).cell 0
  have ca1 := (unhide P4).cell 1
  have ca2 := (unhide P4).cell 2
  have ca3 := (unhide P4).cell 3
  have ca4 := (unhide P4).cell 4
  have ca5 := (unhide P4).cell 5
  have ca6 := (unhide P4).cell 6
  have ca7 := (unhide P4).cell 7
  have ca8 := (unhide P4).cell 8
  have ca9 := (unhide P4).cell 9
  have ca10 := (unhide P4).cell 10
  simp only [List.getElem?_cons_zero, List.getElem?_cons_succ] at ca0 ca1 ca2 ca3 ca4 ca5 ca6 ca7 ca8 ca9 ca10
  have lca : w.heap.size < W4.heap.size := by omega
  go_wp2_with fail
  clear ca0 ca1 ca2 ca3 ca4 ca5 ca6 ca7 ca8 ca9 ca10 lca
  obtain ⟨lo, hlo⟩ : ∃ lo, lo = W4.heap.size := ⟨_, rfl⟩
  refine (toStateO_any x _ (unhide A4) lx).mono ?_
  rintro e w5 ⟨⟨y, rfl, k1, hO⟩, hb⟩
  have z5 : W4.heap.size ≤ w5.heap.size := hb.size
  have A5 := hide ((unhide A4).below hb)
  have P5 := hide ((unhide P4).below hb)
  have S5 := hide (own_below (unhide S4) hb)
  have R5 := hide ((unhide R4).below hb)
  have B5 := hide (below_step (unhide B4) hb (by omega))
  clear hb A4 P4 S4 R4 B4
  have Ey := hide k1.bl
  have Ky := hide k1
  clear k1
  rw [← hlo] at hO
  obtain ⟨hi, hhi⟩ : ∃ hi, hi = w5.heap.size := ⟨_, rfl⟩
  have X_ := hide hO.rows
  rw [← hhi] at X_
  have Y_ := hide hO.side
  clear hO
  have ly := lx.like (unhide Ky)
  go_upto_region 7 with fail
  obtain ⟨W6, hW, z6, hbx, hx⟩ := boxes1 w5 [.bool y.up, .int .i64 y.now, .int .i64 y.su, .slice y.a1 y.D.words.length y.c1, .slice y.a2 y.D.flights.length y.c2, .slice y.a3 y.D.over.length y.c3, .slice y.aI y.LI.length y.cI, .int .i64 y.fr, .slice y.aB y.bl.length y.cB, .slice y.aC y.cl.length y.cC, .slice y.aN y.LN.length y.cN] 70
  rw [← hW]
  clear hW
  have A6 := hide ((unhide A5).below (unhide hbx))
  have P6 := hide ((unhide P5).below (unhide hbx))
  have S6 := hide (own_below (unhide S5) (unhide hbx))
  have R6 := hide ((unhide R5).below (unhide hbx))
  have X6 := hide ((unhide X_).below (unhide hbx))
  have Y6 := hide ((unhide Y_).below (unhide hbx))
  have B6 := hide (below_step (unhide B5) (unhide hbx) (by omega))
  clear A5 P5 S5 R5 X_ Y_ B5
  have N6 := hx
  clear hbx hx
  have u6 : w5.heap.size < W6.heap.size := by omega
  generalize w5.heap.size = bN at *
  have cu0 := (unhide N6).cell 0
  have cu1 := (unhide N6).cell 1
  have cu2 := (unhide N6).cell 2
  have cu3 := (unhide N6).cell 3
  have cu4 := (unhide N6).cell 4
  have cu5 := (unhide N6).cell 5
  have cu6 := (unhide N6).cell 6
  have cu7 := (unhide N6).cell 7
  have cu8 := (unhide N6).cell 8
  have cu9 := (unhide N6).cell 9
  have cu10 := (unhide N6).cell 10
  simp only [List.getElem?_cons_zero, List.getElem?_cons_succ] at cu0 cu1 cu2 cu3 cu4 cu5 cu6 cu7 cu8 cu9 cu10
  have lcu : bN < W6.heap.size := by omega
  go_wp2_with fail
  clear cu0 cu1 cu2 cu3 cu4 cu5 cu6 cu7 cu8 cu9 cu10 lcu
  refine (implBusyIn_any y _ (unhide Y6).bs (by rw [unhide Ey]; exact hbl)).mono ?_
  rintro e w7 ⟨⟨ag, cg, rfl, hO⟩, hb⟩
  have z7 : W6.heap.size ≤ w7.heap.size := hb.size
  have A7 := hide ((unhide A6).below hb)
  have P7 := hide ((unhide P6).below hb)
  have S7 := hide (own_below (unhide S6) hb)
  have R7 := hide ((unhide R6).below hb)
  have X7 := hide ((unhide X6).below hb)
  have Y7 := hide ((unhide Y6).below hb)
  have N7 := hide ((unhide N6).below hb)
  have B7 := hide (below_step (unhide B6) hb (by omega))
  clear hb A6 P6 S6 R6 X6 Y6 N6 B6
  rw [unhide Ey, unhide HLL] at hO
  rw [unhide Ey, unhide HCD, unhide HLL]
  have G_ := hide hO
  have LG := hide (fun q hq => hO.lt q hq)
  clear hO
  have cr0 := (unhide R7).cell 0
  have cr1 := (unhide R7).cell 1
  simp only [List.getElem?_cons_zero, List.getElem?_cons_succ] at cr0 cr1
  have lcr : bR < w7.heap.size := by omega
  go_wp2_with fail
  obtain ⟨W8, hW, z8, hbx, hx⟩ := boxes1 w7 [.int .i64 cd, .slice ag L.length cg] 62
  rw [← hW]
  clear hW
  have A8 := hide ((unhide A7).below (unhide hbx))
  have P8 := hide ((unhide P7).below (unhide hbx))
  have S8 := hide (own_below (unhide S7) (unhide hbx))
  have R8 := hide ((unhide R7).below (unhide hbx))
  have X8 := hide ((unhide X7).below (unhide hbx))
  have Y8 := hide ((unhide Y7).below (unhide hbx))
  have N8 := hide ((unhide N7).below (unhide hbx))
  have G8 := hide (own_below (unhide G_) (unhide hbx))
  have B8 := hide (below_step (unhide B7) (unhide hbx) (by omega))
  clear A7 P7 S7 R7 X7 Y7 N7 G_ B7
  have V8 := hx
  clear hbx hx
  have u8 : w7.heap.size < W8.heap.size := by omega
  generalize w7.heap.size = bV at *
  clear cr0 cr1 lcr
  refine (eqIntsResult_same cd _ _ _ _ L _ (intsAt_own1 (unhide G8)) (intsAt_own1 (unhide S8)) (by omega)).mono ?_
  rintro e w9 ⟨rfl, hb⟩
  have z9 : W8.heap.size ≤ w9.heap.size := hb.size
  have A9 := hide ((unhide A8).below hb)
  have P9 := hide ((unhide P8).below hb)
  have S9 := hide (own_below (unhide S8) hb)
  have R9 := hide ((unhide R8).below hb)
  have X9 := hide ((unhide X8).below hb)
  have Y9 := hide ((unhide Y8).below hb)
  have N9 := hide ((unhide N8).below hb)
  have G9 := hide (own_below (unhide G8) hb)
  have V9 := hide ((unhide V8).below hb)
  have B9 := hide (below_step (unhide B8) hb (by omega))
  clear hb A8 P8 S8 R8 X8 Y8 N8 G8 V8 B8
  have HC : Hid (∀ w0, Below w9.heap.size w9 w0 → Calls Try.prog 23 #[.agg #[.bool x.up, .int .i64 x.now, .int .i64 x.su, .slice x.a1 x.D.words.length x.c1, .slice x.a2 x.D.flights.length x.c2, .slice x.a3 x.D.over.length x.c3, .slice x.aI x.LI.length x.cI, .int .i64 x.fr, .slice x.aB x.bl.length x.cB, .slice x.aC x.cl.length x.cC, .slice x.aN x.LN.length x.cN]] w0 fun r w' => (∃ z : StaA, r = .returned (.agg #[.bool z.up, .int .i64 z.now, .int .i64 z.su, .slice z.a1 z.D.words.length z.c1, .slice z.a2 z.D.flights.length z.c2, .slice z.a3 z.D.over.length z.c3, .slice z.aI z.LI.length z.cI, .int .i64 z.fr, .slice z.aB z.bl.length z.cB, .slice z.aC z.cl.length z.cC, .slice z.aN z.LN.length z.cN]) ∧ z.like x ∧ z.own w0.heap.size w') ∧ Below w0.heap.size w0 w') := fun w0 hb => toStateO_any x w0 ((unhide A9).below hb) lx
  have ca0 := (unhide P9).cell 0
  have ca1 := (unhide P9).cell 1
  have ca2 := (unhide P9).cell 2
  have ca3 := (unhide P9).cell 3
  have ca4 := (unhide P9).cell 4
  have ca5 := (unhide P9).cell 5
  have ca6 := (unhide P9).cell 6
  have ca7 := (unhide P9).cell 7
  have ca8 := (unhide P9).cell 8
  have ca9 := (unhide P9).cell 9
  have ca10 := (unhide P9).cell 10
  simp only [List.getElem?_cons_zero, List.getElem?_cons_succ] at ca0 ca1 ca2 ca3 ca4 ca5 ca6 ca7 ca8 ca9 ca10
  have lca : w.heap.size < w9.heap.size := by omega
  have cu0 := (unhide N9).cell 0
  have cu1 := (unhide N9).cell 1
  have cu2 := (unhide N9).cell 2
  have cu3 := (unhide N9).cell 3
  have cu4 := (unhide N9).cell 4
  have cu5 := (unhide N9).cell 5
  have cu6 := (unhide N9).cell 6
  have cu7 := (unhide N9).cell 7
  have cu8 := (unhide N9).cell 8
  have cu9 := (unhide N9).cell 9
  have cu10 := (unhide N9).cell 10
  simp only [List.getElem?_cons_zero, List.getElem?_cons_succ] at cu0 cu1 cu2 cu3 cu4 cu5 cu6 cu7 cu8 cu9 cu10
  have lcu : bN < w9.heap.size := by omega
  have hD : (fun w' => Below w9.heap.size w9 w' ∧ w'.cell? ⟨w.heap.size, 0, none⟩ = some (.bool x.up) ∧ w'.cell? ⟨w.heap.size, 1, none⟩ = some (.int .i64 x.now) ∧ w'.cell? ⟨w.heap.size, 2, none⟩ = some (.int .i64 x.su) ∧ w'.cell? ⟨w.heap.size, 3, none⟩ = some (.slice x.a1 x.D.words.length x.c1) ∧ w'.cell? ⟨w.heap.size, 4, none⟩ = some (.slice x.a2 x.D.flights.length x.c2) ∧ w'.cell? ⟨w.heap.size, 5, none⟩ = some (.slice x.a3 x.D.over.length x.c3) ∧ w'.cell? ⟨w.heap.size, 6, none⟩ = some (.slice x.aI x.LI.length x.cI) ∧ w'.cell? ⟨w.heap.size, 7, none⟩ = some (.int .i64 x.fr) ∧ w'.cell? ⟨w.heap.size, 8, none⟩ = some (.slice x.aB x.bl.length x.cB) ∧ w'.cell? ⟨w.heap.size, 9, none⟩ = some (.slice x.aC x.cl.length x.cC) ∧ w'.cell? ⟨w.heap.size, 10, none⟩ = some (.slice x.aN x.LN.length x.cN) ∧ w'.cell? ⟨bN, 0, none⟩ = some (.bool y.up) ∧ w'.cell? ⟨bN, 1, none⟩ = some (.int .i64 y.now) ∧ w'.cell? ⟨bN, 2, none⟩ = some (.int .i64 y.su) ∧ w'.cell? ⟨bN, 3, none⟩ = some (.slice y.a1 y.D.words.length y.c1) ∧ w'.cell? ⟨bN, 4, none⟩ = some (.slice y.a2 y.D.flights.length y.c2) ∧ w'.cell? ⟨bN, 5, none⟩ = some (.slice y.a3 y.D.over.length y.c3) ∧ w'.cell? ⟨bN, 6, none⟩ = some (.slice y.aI y.LI.length y.cI) ∧ w'.cell? ⟨bN, 7, none⟩ = some (.int .i64 y.fr) ∧ w'.cell? ⟨bN, 8, none⟩ = some (.slice y.aB y.bl.length y.cB) ∧ w'.cell? ⟨bN, 9, none⟩ = some (.slice y.aC y.cl.length y.cC) ∧ w'.cell? ⟨bN, 10, none⟩ = some (.slice y.aN y.LN.length y.cN)) w9.drew := ⟨(Below.refl _ _).drew, ca0, ca1, ca2, ca3, ca4, ca5, ca6, ca7, ca8, ca9, ca10, cu0, cu1, cu2, cu3, cu4, cu5, cu6, cu7, cu8, cu9, cu10⟩
  have HD := hide hD
  clear hD
  go_wp2_with fail
  clear ca0 ca1 ca2 ca3 ca4 ca5 ca6 ca7 ca8 ca9 ca10 cu0 cu1 cu2 cu3 cu4 cu5 cu6 cu7 cu8 cu9 cu10
  go_region_held3 (fun w' => Below w9.heap.size w9 w' ∧ w'.cell? ⟨w.heap.size, 0, none⟩ = some (.bool x.up) ∧ w'.cell? ⟨w.heap.size, 1, none⟩ = some (.int .i64 x.now) ∧ w'.cell? ⟨w.heap.size, 2, none⟩ = some (.int .i64 x.su) ∧ w'.cell? ⟨w.heap.size, 3, none⟩ = some (.slice x.a1 x.D.words.length x.c1) ∧ w'.cell? ⟨w.heap.size, 4, none⟩ = some (.slice x.a2 x.D.flights.length x.c2) ∧ w'.cell? ⟨w.heap.size, 5, none⟩ = some (.slice x.a3 x.D.over.length x.c3) ∧ w'.cell? ⟨w.heap.size, 6, none⟩ = some (.slice x.aI x.LI.length x.cI) ∧ w'.cell? ⟨w.heap.size, 7, none⟩ = some (.int .i64 x.fr) ∧ w'.cell? ⟨w.heap.size, 8, none⟩ = some (.slice x.aB x.bl.length x.cB) ∧ w'.cell? ⟨w.heap.size, 9, none⟩ = some (.slice x.aC x.cl.length x.cC) ∧ w'.cell? ⟨w.heap.size, 10, none⟩ = some (.slice x.aN x.LN.length x.cN) ∧ w'.cell? ⟨bN, 0, none⟩ = some (.bool y.up) ∧ w'.cell? ⟨bN, 1, none⟩ = some (.int .i64 y.now) ∧ w'.cell? ⟨bN, 2, none⟩ = some (.int .i64 y.su) ∧ w'.cell? ⟨bN, 3, none⟩ = some (.slice y.a1 y.D.words.length y.c1) ∧ w'.cell? ⟨bN, 4, none⟩ = some (.slice y.a2 y.D.flights.length y.c2) ∧ w'.cell? ⟨bN, 5, none⟩ = some (.slice y.a3 y.D.over.length y.c3) ∧ w'.cell? ⟨bN, 6, none⟩ = some (.slice y.aI y.LI.length y.cI) ∧ w'.cell? ⟨bN, 7, none⟩ = some (.int .i64 y.fr) ∧ w'.cell? ⟨bN, 8, none⟩ = some (.slice y.aB y.bl.length y.cB) ∧ w'.cell? ⟨bN, 9, none⟩ = some (.slice y.aC y.cl.length y.cC) ∧ w'.cell? ⟨bN, 10, none⟩ = some (.slice y.aN y.LN.length y.cN)) (first | exact unhide HD | assumption | exact keepC22 lca lca lca lca lca lca lca lca lca lca lca lcu lcu lcu lcu lcu lcu lcu lcu lcu lcu lcu (by assumption) (by assumption))
    (first
      | (go_at_call 23; (with_reducible refine (unhide HC _ (left (by assumption))).mono ?_); rintro r w5 ⟨⟨z1, rfl, kz, sz⟩, hb5⟩; have K1 := hide kz; have S1 := hide sz.side; clear kz sz)
      | (go_at_call 26; refine (eqState_same y z1 _ ((unhide Y9).below (left (by assumption))) (by first | exact unhide S1 | exact (unhide S1).below (by assumption)) ly (like_both (unhide Ky) (unhide K1))).mono ?_; rintro r w5 ⟨rfl, hb5⟩))
  rename_i hS
  have hbS := left hS
  have A10 := hide ((unhide A9).below hbS)
  have P10 := hide ((unhide P9).below hbS)
  have S10 := hide (own_below (unhide S9) hbS)
  have R10 := hide ((unhide R9).below hbS)
  have X10 := hide ((unhide X9).below hbS)
  have Y10 := hide ((unhide Y9).below hbS)
  have N10 := hide ((unhide N9).below hbS)
  have G10 := hide (own_below (unhide G9) hbS)
  have V10 := hide ((unhide V9).below hbS)
  have B10 := hide (below_step (unhide B9) hbS (by omega))
  have z10 := hbS.size
  clear hS hbS HD HC A9 P9 S9 R9 X9 Y9 N9 G9 V9 B9
  generalize hwn : w5 = w10 at *
  clear hwn lca lcu
  clear Y10
  have cu0 := (unhide N10).cell 0
  have cu1 := (unhide N10).cell 1
  have cu2 := (unhide N10).cell 2
  have cu3 := (unhide N10).cell 3
  have cu4 := (unhide N10).cell 4
  have cu5 := (unhide N10).cell 5
  have cu6 := (unhide N10).cell 6
  have cu7 := (unhide N10).cell 7
  have cu8 := (unhide N10).cell 8
  have cu9 := (unhide N10).cell 9
  have cu10 := (unhide N10).cell 10
  simp only [List.getElem?_cons_zero, List.getElem?_cons_succ] at cu0 cu1 cu2 cu3 cu4 cu5 cu6 cu7 cu8 cu9 cu10
  have lcu : bN < w10.heap.size := by omega
  go_wp2_with fail
  clear cu0 cu1 cu2 cu3 cu4 cu5 cu6 cu7 cu8 cu9 cu10 lcu
  refine (markStateB y _ lo hi (unhide X10) (by omega) ly).mono ?_
  rintro e w11 ⟨⟨km, rfl, hkm⟩, -, ho⟩
  have z11 : w10.heap.size ≤ w11.heap.size := ho.size
  have P11 := hide ((unhide P10).out ho (fun h => by omega))
  have S11 := hide (ho.own (unhide S10) (fun q hq h => by have := unhide LS q hq; omega))
  have R11 := hide ((unhide R10).out ho (fun h => by omega))
  have N11 := hide ((unhide N10).out ho (fun h => by omega))
  have G11 := hide (ho.own (unhide G10) (fun q hq h => by have := unhide LG q hq; omega))
  have V11 := hide ((unhide V10).out ho (fun h => by omega))
  have B11 := hide (ho.below (unhide B10) (Nat.le_refl _) (fun q hq h => by omega))
  have A11 := hide ((unhide AZ).below (unhide B11))
  clear ho X10 P10 S10 R10 N10 G10 V10 B10 A10
  have kd : ¬ km < 0 := by omega
  have cv0 := (unhide V11).cell 0
  have cv1 := (unhide V11).cell 1
  simp only [List.getElem?_cons_zero, List.getElem?_cons_succ] at cv0 cv1
  have lcv : bV < w11.heap.size := by omega
  have cr0 := (unhide R11).cell 0
  have cr1 := (unhide R11).cell 1
  simp only [List.getElem?_cons_zero, List.getElem?_cons_succ] at cr0 cr1
  have lcr : bR < w11.heap.size := by omega
  go_wp2_with fail
  clear cv0 cv1 lcv cr0 cr1 lcr
  refine (eqIntsResult_same cd _ _ _ _ L _ (intsAt_own1 (unhide G11)) (intsAt_own1 (unhide S11)) (by omega)).mono ?_
  rintro e w12 ⟨rfl, hb⟩
  have z12 : w11.heap.size ≤ w12.heap.size := hb.size
  have A12 := hide ((unhide A11).below hb)
  have P12 := hide ((unhide P11).below hb)
  have S12 := hide (own_below (unhide S11) hb)
  have R12 := hide ((unhide R11).below hb)
  have N12 := hide ((unhide N11).below hb)
  have G12 := hide (own_below (unhide G11) hb)
  have V12 := hide ((unhide V11).below hb)
  have B12 := hide (below_step (unhide B11) hb (by omega))
  clear hb A11 P11 S11 R11 N11 G11 V11 B11
  have cv0 := (unhide V12).cell 0
  have cv1 := (unhide V12).cell 1
  simp only [List.getElem?_cons_zero, List.getElem?_cons_succ] at cv0 cv1
  have lcv : bV < w12.heap.size := by omega
  go_wp2_with fail
  clear cv0 cv1 lcv
  refine (markIntsResult_any cd _ L.length _ _ 1 _ (unhide G12) (by omega) (by omega) (by omega)).mono ?_
  rintro e w13 ⟨rfl, hO, ho⟩
  have z13 : w12.heap.size ≤ w13.heap.size := ho.size
  have P13 := hide ((unhide P12).out ho (fun h => by have := unhide LG _ h; omega))
  have S13 := hide (ho.own (unhide S12) (fun q hq h => by have := unhide LS q hq; have := unhide LG _ h; omega))
  have R13 := hide ((unhide R12).out ho (fun h => by have := unhide LG _ h; omega))
  have N13 := hide ((unhide N12).out ho (fun h => by have := unhide LG _ h; omega))
  have V13 := hide ((unhide V12).out ho (fun h => by have := unhide LG _ h; omega))
  have G13 := hide hO
  have B13 := hide (ho.below (unhide B12) (Nat.le_refl _) (fun q hq h => by have := unhide LG _ h; omega))
  have A13 := hide ((unhide AZ).below (unhide B13))
  clear ho hO P12 S12 R12 N12 V12 G12 B12 A12
  have cv0 := (unhide V13).cell 0
  have cv1 := (unhide V13).cell 1
  simp only [List.getElem?_cons_zero, List.getElem?_cons_succ] at cv0 cv1
  have lcv : bV < w13.heap.size := by omega
  have kk : ¬ (1 + (L.length : Int)) < 0 := by omega
  have kn := int_neq_self (1 + (L.length : Int))
  go_wp2_with fail
  clear cv0 cv1 lcv
  refine (heldIntsResult_any cd _ _ L.length 1 _ (intsAt_own1 (unhide G13)) (by omega) (by omega) (by omega)).mono ?_
  rintro e w14 ⟨rfl, hb⟩
  have z14 : w13.heap.size ≤ w14.heap.size := hb.size
  have A14 := hide ((unhide A13).below hb)
  have P14 := hide ((unhide P13).below hb)
  have S14 := hide (own_below (unhide S13) hb)
  have R14 := hide ((unhide R13).below hb)
  have N14 := hide ((unhide N13).below hb)
  have G14 := hide (own_below (unhide G13) hb)
  have V14 := hide ((unhide V13).below hb)
  have B14 := hide (below_step (unhide B13) hb (by omega))
  clear hb A13 P13 S13 R13 N13 G13 V13 B13
  have ca0 := (unhide P14).cell 0
  have ca1 := (unhide P14).cell 1
  have ca2 := (unhide P14).cell 2
  have ca3 := (unhide P14).cell 3
  have ca4 := (unhide P14).cell 4
  have ca5 := (unhide P14).cell 5
  have ca6 := (unhide P14).cell 6
  have ca7 := (unhide P14).cell 7
  have ca8 := (unhide P14).cell 8
  have ca9 := (unhide P14).cell 9
  have ca10 := (unhide P14).cell 10
  simp only [List.getElem?_cons_zero, List.getElem?_cons_succ] at ca0 ca1 ca2 ca3 ca4 ca5 ca6 ca7 ca8 ca9 ca10
  have lca : w.heap.size < w14.heap.size := by omega
  go_wp2_with fail
  clear ca0 ca1 ca2 ca3 ca4 ca5 ca6 ca7 ca8 ca9 ca10 lca
  refine (toStateO_any x _ (unhide A14) lx).mono ?_
  rintro e w15 ⟨⟨y2, rfl, k2, hO⟩, hb⟩
  have z15 : w14.heap.size ≤ w15.heap.size := hb.size
  have A15 := hide ((unhide A14).below hb)
  have P15 := hide ((unhide P14).below hb)
  have S15 := hide (own_below (unhide S14) hb)
  have R15 := hide ((unhide R14).below hb)
  have N15 := hide ((unhide N14).below hb)
  have G15 := hide (own_below (unhide G14) hb)
  have V15 := hide ((unhide V14).below hb)
  have B15 := hide (below_step (unhide B14) hb (by omega))
  clear hb A14 P14 S14 R14 N14 G14 V14 B14
  have Ey2 := hide k2.bl
  have Ky2 := hide k2
  clear k2
  have Z_ := hide hO.side
  clear hO
  go_wp2_with fail
  refine (implBusyIn_any y2 _ (unhide Z_).bs (by rw [unhide Ey2]; exact hbl)).mono ?_
  rintro e w16 ⟨⟨ah, ch, rfl, hO⟩, hb⟩
  have z16 : w15.heap.size ≤ w16.heap.size := hb.size
  have A16 := hide ((unhide A15).below hb)
  have P16 := hide ((unhide P15).below hb)
  have S16 := hide (own_below (unhide S15) hb)
  have R16 := hide ((unhide R15).below hb)
  have N16 := hide ((unhide N15).below hb)
  have G16 := hide (own_below (unhide G15) hb)
  have V16 := hide ((unhide V15).below hb)
  have Z16 := hide ((unhide Z_).below hb)
  have B16 := hide (below_step (unhide B15) hb (by omega))
  clear hb A15 P15 S15 R15 N15 G15 V15 Z_ B15
  rw [unhide Ey2, unhide HLL] at hO
  rw [unhide Ey2, unhide HCD, unhide HLL]
  have H_ := hide hO
  have LH := hide (fun q hq => hO.lt q hq)
  clear hO
  clear Z16
  have cr0 := (unhide R16).cell 0
  have cr1 := (unhide R16).cell 1
  simp only [List.getElem?_cons_zero, List.getElem?_cons_succ] at cr0 cr1
  have lcr : bR < w16.heap.size := by omega
  go_wp2_with fail
  obtain ⟨W17, hW, z17, hbx, hx⟩ := boxes1 w16 [.int .i64 cd, .slice ah L.length ch] 62
  rw [← hW]
  clear hW
  have A17 := hide ((unhide A16).below (unhide hbx))
  have P17 := hide ((unhide P16).below (unhide hbx))
  have S17 := hide (own_below (unhide S16) (unhide hbx))
  have R17 := hide ((unhide R16).below (unhide hbx))
  have N17 := hide ((unhide N16).below (unhide hbx))
  have G17 := hide (own_below (unhide G16) (unhide hbx))
  have V17 := hide ((unhide V16).below (unhide hbx))
  have H17 := hide (own_below (unhide H_) (unhide hbx))
  have B17 := hide (below_step (unhide B16) (unhide hbx) (by omega))
  clear A16 P16 S16 R16 N16 G16 V16 H_ B16
  have T17 := hx
  clear hbx hx
  have u17 : w16.heap.size < W17.heap.size := by omega
  generalize w16.heap.size = bT at *
  clear cr0 cr1 lcr
  refine (eqIntsResult_same cd _ _ _ _ L _ (intsAt_own1 (unhide H17)) (intsAt_own1 (unhide S17)) (by omega)).mono ?_
  rintro e w18 ⟨rfl, hb⟩
  have z18 : W17.heap.size ≤ w18.heap.size := hb.size
  have A18 := hide ((unhide A17).below hb)
  have P18 := hide ((unhide P17).below hb)
  have S18 := hide (own_below (unhide S17) hb)
  have R18 := hide ((unhide R17).below hb)
  have N18 := hide ((unhide N17).below hb)
  have G18 := hide (own_below (unhide G17) hb)
  have V18 := hide ((unhide V17).below hb)
  have H18 := hide (own_below (unhide H17) hb)
  have T18 := hide ((unhide T17).below hb)
  have B18 := hide (below_step (unhide B17) hb (by omega))
  clear hb A17 P17 S17 R17 N17 G17 V17 H17 T17 B17
  have cv0 := (unhide V18).cell 0
  have cv1 := (unhide V18).cell 1
  simp only [List.getElem?_cons_zero, List.getElem?_cons_succ] at cv0 cv1
  have lcv : bV < w18.heap.size := by omega
  go_wp2_with fail
  clear cv0 cv1 lcv
  refine (heldIntsResult_any cd _ _ L.length 1 _ (intsAt_own1 (unhide G18)) (by omega) (by omega) (by omega)).mono ?_
  rintro e w19 ⟨rfl, hb⟩
  have z19 : w18.heap.size ≤ w19.heap.size := hb.size
  have A19 := hide ((unhide A18).below hb)
  have P19 := hide ((unhide P18).below hb)
  have S19 := hide (own_below (unhide S18) hb)
  have R19 := hide ((unhide R18).below hb)
  have N19 := hide ((unhide N18).below hb)
  have G19 := hide (own_below (unhide G18) hb)
  have V19 := hide ((unhide V18).below hb)
  have H19 := hide (own_below (unhide H18) hb)
  have T19 := hide ((unhide T18).below hb)
  have B19 := hide (below_step (unhide B18) hb (by omega))
  clear hb A18 P18 S18 R18 N18 G18 V18 H18 T18 B18
  go_wp2_with fail
  go_ret
  exact ⟨rfl, unhide B19⟩
end fnExactBusyIn
end Go.Proofs.Ytaadbgebcknfkaa
