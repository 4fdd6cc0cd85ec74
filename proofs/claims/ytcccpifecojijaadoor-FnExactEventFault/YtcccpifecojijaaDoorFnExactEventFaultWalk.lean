/-
  The walk of laws.FnExactEventFault: it returns true, and writes nothing that was there.
-/
import Derived.Test.YtcccpifecojijaaDoorEvSpec
import Derived.Test.YtcccpifecojijaaDoorEvImpl2
import Derived.Test.YtcccpifecojijaaDoorEvLaws
import Derived.Deep.RegionHeld3
import Derived.Deep.CutRange
namespace Go.Proofs.YtcccpifecojijaaDoor.fnExactEventFault
open Go.RowKit
set_option linter.unusedVariables false

theorem left {W0 w' : World} {p : Prop} (h : Below W0.heap.size W0 w' ∧ p) : Below W0.heap.size W0 w' := h.1
theorem keepC20 {W0 w' w1 : World} {b0 b1 b2 b3 b4 b5 b6 b7 b8 b9 b10 b11 b12 b13 b14 b15 b16 b17 b18 b19 o0 o1 o2 o3 o4 o5 o6 o7 o8 o9 o10 o11 o12 o13 o14 o15 o16 o17 o18 o19 : Nat} {v0 v1 v2 v3 v4 v5 v6 v7 v8 v9 v10 v11 v12 v13 v14 v15 v16 v17 v18 v19 : Value} (h0 : b0 < W0.heap.size) (h1 : b1 < W0.heap.size) (h2 : b2 < W0.heap.size) (h3 : b3 < W0.heap.size) (h4 : b4 < W0.heap.size) (h5 : b5 < W0.heap.size) (h6 : b6 < W0.heap.size) (h7 : b7 < W0.heap.size) (h8 : b8 < W0.heap.size) (h9 : b9 < W0.heap.size) (h10 : b10 < W0.heap.size) (h11 : b11 < W0.heap.size) (h12 : b12 < W0.heap.size) (h13 : b13 < W0.heap.size) (h14 : b14 < W0.heap.size) (h15 : b15 < W0.heap.size) (h16 : b16 < W0.heap.size) (h17 : b17 < W0.heap.size) (h18 : b18 < W0.heap.size) (h19 : b19 < W0.heap.size) (hS : Below W0.heap.size W0 w' ∧ w'.cell? ⟨b0, o0, none⟩ = some v0 ∧ w'.cell? ⟨b1, o1, none⟩ = some v1 ∧ w'.cell? ⟨b2, o2, none⟩ = some v2 ∧ w'.cell? ⟨b3, o3, none⟩ = some v3 ∧ w'.cell? ⟨b4, o4, none⟩ = some v4 ∧ w'.cell? ⟨b5, o5, none⟩ = some v5 ∧ w'.cell? ⟨b6, o6, none⟩ = some v6 ∧ w'.cell? ⟨b7, o7, none⟩ = some v7 ∧ w'.cell? ⟨b8, o8, none⟩ = some v8 ∧ w'.cell? ⟨b9, o9, none⟩ = some v9 ∧ w'.cell? ⟨b10, o10, none⟩ = some v10 ∧ w'.cell? ⟨b11, o11, none⟩ = some v11 ∧ w'.cell? ⟨b12, o12, none⟩ = some v12 ∧ w'.cell? ⟨b13, o13, none⟩ = some v13 ∧ w'.cell? ⟨b14, o14, none⟩ = some v14 ∧ w'.cell? ⟨b15, o15, none⟩ = some v15 ∧ w'.cell? ⟨b16, o16, none⟩ = some v16 ∧ w'.cell? ⟨b17, o17, none⟩ = some v17 ∧ w'.cell? ⟨b18, o18, none⟩ = some v18 ∧ w'.cell? ⟨b19, o19, none⟩ = some v19) (hb : Below w'.heap.size w' w1) : Below W0.heap.size W0 w1 ∧ w1.cell? ⟨b0, o0, none⟩ = some v0 ∧ w1.cell? ⟨b1, o1, none⟩ = some v1 ∧ w1.cell? ⟨b2, o2, none⟩ = some v2 ∧ w1.cell? ⟨b3, o3, none⟩ = some v3 ∧ w1.cell? ⟨b4, o4, none⟩ = some v4 ∧ w1.cell? ⟨b5, o5, none⟩ = some v5 ∧ w1.cell? ⟨b6, o6, none⟩ = some v6 ∧ w1.cell? ⟨b7, o7, none⟩ = some v7 ∧ w1.cell? ⟨b8, o8, none⟩ = some v8 ∧ w1.cell? ⟨b9, o9, none⟩ = some v9 ∧ w1.cell? ⟨b10, o10, none⟩ = some v10 ∧ w1.cell? ⟨b11, o11, none⟩ = some v11 ∧ w1.cell? ⟨b12, o12, none⟩ = some v12 ∧ w1.cell? ⟨b13, o13, none⟩ = some v13 ∧ w1.cell? ⟨b14, o14, none⟩ = some v14 ∧ w1.cell? ⟨b15, o15, none⟩ = some v15 ∧ w1.cell? ⟨b16, o16, none⟩ = some v16 ∧ w1.cell? ⟨b17, o17, none⟩ = some v17 ∧ w1.cell? ⟨b18, o18, none⟩ = some v18 ∧ w1.cell? ⟨b19, o19, none⟩ = some v19 := by
  obtain ⟨h, d0, d1, d2, d3, d4, d5, d6, d7, d8, d9, d10, d11, d12, d13, d14, d15, d16, d17, d18, d19⟩ := hS
  have hz := h.size
  exact ⟨h.trans (hb.mono hz), ((bcell hb).1 _ _ (by omega)).trans d0, ((bcell hb).1 _ _ (by omega)).trans d1, ((bcell hb).1 _ _ (by omega)).trans d2, ((bcell hb).1 _ _ (by omega)).trans d3, ((bcell hb).1 _ _ (by omega)).trans d4, ((bcell hb).1 _ _ (by omega)).trans d5, ((bcell hb).1 _ _ (by omega)).trans d6, ((bcell hb).1 _ _ (by omega)).trans d7, ((bcell hb).1 _ _ (by omega)).trans d8, ((bcell hb).1 _ _ (by omega)).trans d9, ((bcell hb).1 _ _ (by omega)).trans d10, ((bcell hb).1 _ _ (by omega)).trans d11, ((bcell hb).1 _ _ (by omega)).trans d12, ((bcell hb).1 _ _ (by omega)).trans d13, ((bcell hb).1 _ _ (by omega)).trans d14, ((bcell hb).1 _ _ (by omega)).trans d15, ((bcell hb).1 _ _ (by omega)).trans d16, ((bcell hb).1 _ _ (by omega)).trans d17, ((bcell hb).1 _ _ (by omega)).trans d18, ((bcell hb).1 _ _ (by omega)).trans d19⟩

set_option maxRecDepth 20000 in
set_option maxHeartbeats 4000000 in
theorem walk (k wo at_ : Int) (fl : List Int) (ok : Int) (op ot : ByteArray) (od : Bool) (oi : Int) (on : List Int) (af a1 : Option Addr) (cf c1 : Nat) (w : World) (hfw : IntsAt w af fl) (h : IntsAt w a1 on) (hl : fl.length ≤ maxLen) (hn : on.length ≤ maxLen) (hp : op.size ≤ maxLen) (ht : ot.size ≤ maxLen) (hsh : w.ShapedOpen Tryd.prog) :
    Calls Tryd.prog 6 #[.agg #[.int .i64 k, .int .i64 wo, .int .i64 at_, .slice af fl.length cf, .int .i64 ok, .string op, .string ot, .bool od, .int .i64 oi, .slice a1 on.length c1]] w fun r w' => r = .returned (.bool true) ∧ Below w.heap.size w w' := by
  obtain ⟨mx, hm⟩ := Tryd.laysM143.s1_3 w hsh
  have hm0 : w.cell? ⟨0, 0, none⟩ = some (.int .i64 mx) := hm
  have hM : MaxAt w mx := ⟨hm0, lt_of_cell hm0⟩
  clear hsh hm hm0
  obtain ⟨W1, hW, hWz, hbx, hx⟩ := boxes1 w [.int .i64 k, .int .i64 wo, .int .i64 at_, .slice af fl.length cf, .int .i64 ok, .string op, .string ot, .bool od, .int .i64 oi, .slice a1 on.length c1] 40
  go_enter Tryd.func6, Tryd.ntmps6
  go_wp2_with fail
  rw [← hW]
  clear hW
  have A1 := hide (h.below (unhide hbx))
  have F1 := hide (hfw.below (unhide hbx))
  have M1 := hide (hM.below (unhide hbx))
  have P1 := hx
  have B1 := hbx
  clear hx hbx h hfw hM
  refine (szEvent_any k wo at_ fl.length ok op ot od oi on.length af a1 cf c1 1048576 _ (by omega) (by omega) hl hp ht hn).mono ?_
  rintro e w2 ⟨⟨r, rfl, hr⟩, hb⟩
  have z2 : W1.heap.size ≤ w2.heap.size := hb.size
  have A2 := hide ((unhide A1).below hb)
  have F2 := hide ((unhide F1).below hb)
  have M2 := hide ((unhide M1).below hb)
  have P2 := hide ((unhide P1).below hb)
  have B2 := hide (below_step (unhide B1) hb (by omega))
  clear hb A1 F1 M1 P1 B1
  by_cases hv : r < 0
  · clear hr
    go_wp2_with fail
    go_ret
    exact ⟨rfl, unhide B2⟩
  obtain ⟨hl', hp', ht', hn'⟩ : fl.length ≤ 1048576 ∧ op.size ≤ 1048576 ∧ ot.size ≤ 1048576 ∧ on.length ≤ 1048576 := by rcases hr with h | h <;> omega
  clear hr hp ht hn hl
  have ca0 := (unhide P2).cell 0
  have ca1 := (unhide P2).cell 1
  have ca2 := (unhide P2).cell 2
  have ca3 := (unhide P2).cell 3
  have ca4 := (unhide P2).cell 4
  have ca5 := (unhide P2).cell 5
  have ca6 := (unhide P2).cell 6
  have ca7 := (unhide P2).cell 7
  have ca8 := (unhide P2).cell 8
  have ca9 := (unhide P2).cell 9
  simp only [List.getElem?_cons_zero, List.getElem?_cons_succ] at ca0 ca1 ca2 ca3 ca4 ca5 ca6 ca7 ca8 ca9
  go_wp2_with fail
  clear ca0 ca1 ca2 ca3 ca4 ca5 ca6 ca7 ca8 ca9
  refine (toEvent_any k wo at_ fl ok op ot od oi on af a1 cf c1 _ (unhide F2) (unhide A2) hl' hn').mono ?_
  rintro e w3 ⟨⟨g3, g4, rfl, hO, hO2, -, -⟩, hb⟩
  have z3 : w2.heap.size ≤ w3.heap.size := hb.size
  have A3 := hide ((unhide A2).below hb)
  have F3 := hide ((unhide F2).below hb)
  have M3 := hide ((unhide M2).below hb)
  have P3 := hide ((unhide P2).below hb)
  have B3 := hide (below_step (unhide B2) hb (by omega))
  clear hb A2 F2 M2 P2 B2
  have T3 := hide hO
  have U3 := hide hO2
  clear hO hO2
  go_wp2_with fail
  refine (specEventFault_any k wo at_ fl ok op ot od oi on (some ⟨g3, 0, none⟩) (some ⟨g4, 0, none⟩) fl.length on.length _ (unhide T3) (unhide U3) hn' hp' ht' hl').mono ?_
  rintro e w5 ⟨rfl, hb⟩
  clear T3 U3
  have z5 : w3.heap.size ≤ w5.heap.size := hb.size
  have A5 := hide ((unhide A3).below hb)
  have F5 := hide ((unhide F3).below hb)
  have M5 := hide ((unhide M3).below hb)
  have P5 := hide ((unhide P3).below hb)
  have B5 := hide (below_step (unhide B3) hb (by omega))
  clear hb A3 F3 M3 P3 B3
  have ca0 := (unhide P5).cell 0
  have ca1 := (unhide P5).cell 1
  have ca2 := (unhide P5).cell 2
  have ca3 := (unhide P5).cell 3
  have ca4 := (unhide P5).cell 4
  have ca5 := (unhide P5).cell 5
  have ca6 := (unhide P5).cell 6
  have ca7 := (unhide P5).cell 7
  have ca8 := (unhide P5).cell 8
  have ca9 := (unhide P5).cell 9
  simp only [List.getElem?_cons_zero, List.getElem?_cons_succ] at ca0 ca1 ca2 ca3 ca4 ca5 ca6 ca7 ca8 ca9
  generalize hcd : evCode k wo at_ fl ok op ot od oi on = cd at *
  have HCD := hide hcd
  clear hcd
  go_wp2_with fail
  clear ca0 ca1 ca2 ca3 ca4 ca5 ca6 ca7 ca8 ca9
  refine (toEvent_any k wo at_ fl ok op ot od oi on af a1 cf c1 _ (unhide F5) (unhide A5) hl' hn').mono ?_
  rintro e w6 ⟨⟨g6, g7, rfl, hO, hO2, -, -⟩, hb⟩
  have z6 : w5.heap.size ≤ w6.heap.size := hb.size
  have A6 := hide ((unhide A5).below hb)
  have F6 := hide ((unhide F5).below hb)
  have M6 := hide ((unhide M5).below hb)
  have P6 := hide ((unhide P5).below hb)
  have B6 := hide (below_step (unhide B5) hb (by omega))
  clear hb A5 F5 M5 P5 B5
  have X6 := hide hO
  have Y6 := hide hO2
  clear hO hO2
  go_upto_region 7 with fail
  obtain ⟨W8, hW, z8, hbx, hx⟩ := boxes1 w6 [.int .i64 k, .int .i64 wo, .int .i64 at_, .slice (some ⟨g6, 0, none⟩) fl.length fl.length, .int .i64 ok, .string op, .string ot, .bool od, .int .i64 oi, .slice (some ⟨g7, 0, none⟩) on.length on.length] 44
  rw [← hW]
  clear hW
  have A8 := hide ((unhide A6).below (unhide hbx))
  have F8 := hide ((unhide F6).below (unhide hbx))
  have M8 := hide ((unhide M6).below (unhide hbx))
  have P8 := hide ((unhide P6).below (unhide hbx))
  have X8 := hide ((unhide X6).below (unhide hbx))
  have Y8 := hide ((unhide Y6).below (unhide hbx))
  have B8 := hide (below_step (unhide B6) (unhide hbx) (by omega))
  have Q8 := hx
  clear hbx hx A6 F6 M6 P6 X6 Y6 B6
  have u8 : w6.heap.size < W8.heap.size := by omega
  generalize w6.heap.size = b8 at *
  have cx0 := (unhide Q8).cell 0
  have cx1 := (unhide Q8).cell 1
  have cx2 := (unhide Q8).cell 2
  have cx3 := (unhide Q8).cell 3
  have cx4 := (unhide Q8).cell 4
  have cx5 := (unhide Q8).cell 5
  have cx6 := (unhide Q8).cell 6
  have cx7 := (unhide Q8).cell 7
  have cx8 := (unhide Q8).cell 8
  have cx9 := (unhide Q8).cell 9
  simp only [List.getElem?_cons_zero, List.getElem?_cons_succ] at cx0 cx1 cx2 cx3 cx4 cx5 cx6 cx7 cx8 cx9
  go_wp2_with fail
  clear cx0 cx1 cx2 cx3 cx4 cx5 cx6 cx7 cx8 cx9
  refine (implEventFault_any k wo at_ fl ok op ot od oi on (some ⟨g6, 0, none⟩) (some ⟨g7, 0, none⟩) fl.length on.length mx _ (unhide X8) (unhide Y8) (unhide M8) hn' hp' ht' hl').mono ?_
  rintro e w9 ⟨rfl, hb⟩
  have z9 : W8.heap.size ≤ w9.heap.size := hb.size
  have A9 := hide ((unhide A8).below hb)
  have F9 := hide ((unhide F8).below hb)
  have M9 := hide ((unhide M8).below hb)
  have P9 := hide ((unhide P8).below hb)
  have X9 := hide ((unhide X8).below hb)
  have Y9 := hide ((unhide Y8).below hb)
  have Q9 := hide ((unhide Q8).below hb)
  have B9 := hide (below_step (unhide B8) hb (by omega))
  clear hb A8 F8 M8 P8 B8 X8 Y8 Q8
  rw [unhide HCD]
  have hne := int_neq_self cd
  have ca0 := (unhide P9).cell 0
  have ca1 := (unhide P9).cell 1
  have ca2 := (unhide P9).cell 2
  have ca3 := (unhide P9).cell 3
  have ca4 := (unhide P9).cell 4
  have ca5 := (unhide P9).cell 5
  have ca6 := (unhide P9).cell 6
  have ca7 := (unhide P9).cell 7
  have ca8 := (unhide P9).cell 8
  have ca9 := (unhide P9).cell 9
  simp only [List.getElem?_cons_zero, List.getElem?_cons_succ] at ca0 ca1 ca2 ca3 ca4 ca5 ca6 ca7 ca8 ca9
  have cx0 := (unhide Q9).cell 0
  have cx1 := (unhide Q9).cell 1
  have cx2 := (unhide Q9).cell 2
  have cx3 := (unhide Q9).cell 3
  have cx4 := (unhide Q9).cell 4
  have cx5 := (unhide Q9).cell 5
  have cx6 := (unhide Q9).cell 6
  have cx7 := (unhide Q9).cell 7
  have cx8 := (unhide Q9).cell 8
  have cx9 := (unhide Q9).cell 9
  simp only [List.getElem?_cons_zero, List.getElem?_cons_succ] at cx0 cx1 cx2 cx3 cx4 cx5 cx6 cx7 cx8 cx9
  have hD : (fun w' => Below w9.heap.size w9 w' ∧ w'.cell? ⟨w.heap.size, 0, none⟩ = some (.int .i64 k) ∧ w'.cell? ⟨w.heap.size, 1, none⟩ = some (.int .i64 wo) ∧ w'.cell? ⟨w.heap.size, 2, none⟩ = some (.int .i64 at_) ∧ w'.cell? ⟨w.heap.size, 3, none⟩ = some (.slice af fl.length cf) ∧ w'.cell? ⟨w.heap.size, 4, none⟩ = some (.int .i64 ok) ∧ w'.cell? ⟨w.heap.size, 5, none⟩ = some (.string op) ∧ w'.cell? ⟨w.heap.size, 6, none⟩ = some (.string ot) ∧ w'.cell? ⟨w.heap.size, 7, none⟩ = some (.bool od) ∧ w'.cell? ⟨w.heap.size, 8, none⟩ = some (.int .i64 oi) ∧ w'.cell? ⟨w.heap.size, 9, none⟩ = some (.slice a1 on.length c1) ∧ w'.cell? ⟨b8, 0, none⟩ = some (.int .i64 k) ∧ w'.cell? ⟨b8, 1, none⟩ = some (.int .i64 wo) ∧ w'.cell? ⟨b8, 2, none⟩ = some (.int .i64 at_) ∧ w'.cell? ⟨b8, 3, none⟩ = some (.slice (some ⟨g6, 0, none⟩) fl.length fl.length) ∧ w'.cell? ⟨b8, 4, none⟩ = some (.int .i64 ok) ∧ w'.cell? ⟨b8, 5, none⟩ = some (.string op) ∧ w'.cell? ⟨b8, 6, none⟩ = some (.string ot) ∧ w'.cell? ⟨b8, 7, none⟩ = some (.bool od) ∧ w'.cell? ⟨b8, 8, none⟩ = some (.int .i64 oi) ∧ w'.cell? ⟨b8, 9, none⟩ = some (.slice (some ⟨g7, 0, none⟩) on.length on.length)) w9.drew := ⟨(Below.refl _ _).drew, ca0, ca1, ca2, ca3, ca4, ca5, ca6, ca7, ca8, ca9, cx0, cx1, cx2, cx3, cx4, cx5, cx6, cx7, cx8, cx9⟩
  have HD := hide hD
  clear hD
  go_wp2_with fail
  clear ca0 ca1 ca2 ca3 ca4 ca5 ca6 ca7 ca8 ca9 cx0 cx1 cx2 cx3 cx4 cx5 cx6 cx7 cx8 cx9
  have lca : w.heap.size < w9.heap.size := by omega
  have lcx : b8 < w9.heap.size := by omega
  go_region_held3 (fun w' => Below w9.heap.size w9 w' ∧ w'.cell? ⟨w.heap.size, 0, none⟩ = some (.int .i64 k) ∧ w'.cell? ⟨w.heap.size, 1, none⟩ = some (.int .i64 wo) ∧ w'.cell? ⟨w.heap.size, 2, none⟩ = some (.int .i64 at_) ∧ w'.cell? ⟨w.heap.size, 3, none⟩ = some (.slice af fl.length cf) ∧ w'.cell? ⟨w.heap.size, 4, none⟩ = some (.int .i64 ok) ∧ w'.cell? ⟨w.heap.size, 5, none⟩ = some (.string op) ∧ w'.cell? ⟨w.heap.size, 6, none⟩ = some (.string ot) ∧ w'.cell? ⟨w.heap.size, 7, none⟩ = some (.bool od) ∧ w'.cell? ⟨w.heap.size, 8, none⟩ = some (.int .i64 oi) ∧ w'.cell? ⟨w.heap.size, 9, none⟩ = some (.slice a1 on.length c1) ∧ w'.cell? ⟨b8, 0, none⟩ = some (.int .i64 k) ∧ w'.cell? ⟨b8, 1, none⟩ = some (.int .i64 wo) ∧ w'.cell? ⟨b8, 2, none⟩ = some (.int .i64 at_) ∧ w'.cell? ⟨b8, 3, none⟩ = some (.slice (some ⟨g6, 0, none⟩) fl.length fl.length) ∧ w'.cell? ⟨b8, 4, none⟩ = some (.int .i64 ok) ∧ w'.cell? ⟨b8, 5, none⟩ = some (.string op) ∧ w'.cell? ⟨b8, 6, none⟩ = some (.string ot) ∧ w'.cell? ⟨b8, 7, none⟩ = some (.bool od) ∧ w'.cell? ⟨b8, 8, none⟩ = some (.int .i64 oi) ∧ w'.cell? ⟨b8, 9, none⟩ = some (.slice (some ⟨g7, 0, none⟩) on.length on.length)) (first | exact unhide HD | assumption | exact keepC20 lca lca lca lca lca lca lca lca lca lca lcx lcx lcx lcx lcx lcx lcx lcx lcx lcx (by assumption) (by assumption))
    (first
      | (go_at_call 21; refine (toEvent_any k wo at_ fl ok op ot od oi on af a1 cf c1 _ ((unhide F9).below (left (by assumption))) ((unhide A9).below (left (by assumption))) hl' hn').mono ?_; rintro e w5 ⟨⟨h1, h2, rfl, hO, hO2, -, -⟩, hb5⟩; have HO := hide hO; have HP := hide hO2; clear hO hO2)
      | (go_at_call 23; refine (eqEvent_same k wo at_ fl ok op ot od oi on (some ⟨g6, 0, none⟩) (some ⟨g7, 0, none⟩) _ _ fl.length on.length fl.length on.length _ ((unhide X9).below (left (by assumption))) ((unhide Y9).below (left (by assumption))) (by first | exact unhide HO | exact (unhide HO).below (by assumption)) (by first | exact unhide HP | exact (unhide HP).below (by assumption)) hl' hn').mono ?_; rintro e w5 ⟨rfl, hb5⟩))
  rename_i hS
  have B10 := hide (below_step (unhide B9) hS.1 (by omega))
  clear hS HD
  go_wp2_with fail
  go_ret
  exact ⟨rfl, unhide B10⟩
end Go.Proofs.YtcccpifecojijaaDoor.fnExactEventFault
