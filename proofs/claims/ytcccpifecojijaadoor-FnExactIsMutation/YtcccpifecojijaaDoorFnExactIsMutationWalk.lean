/-
  The walk of laws.FnExactIsMutation: it returns true, and writes nothing that was there.
-/
import Derived.Test.YtcccpifecojijaaDoorOpImpl2
import Derived.Test.YtcccpifecojijaaDoorOpLaws
import Derived.Deep.RegionHeld3
namespace Go.Proofs.YtcccpifecojijaaDoor.fnExactIsMutation
open Go.RowKit
set_option linter.unusedVariables false

theorem bool_neq_self (b : Bool) : (b != b) = false := by cases b <;> rfl
theorem left {W0 w' : World} {p : Prop} (h : Below W0.heap.size W0 w' ∧ p) : Below W0.heap.size W0 w' := h.1
theorem keepC12 {W0 w' w1 : World} {b0 b1 b2 b3 b4 b5 b6 b7 b8 b9 b10 b11 o0 o1 o2 o3 o4 o5 o6 o7 o8 o9 o10 o11 : Nat} {v0 v1 v2 v3 v4 v5 v6 v7 v8 v9 v10 v11 : Value} (h0 : b0 < W0.heap.size) (h1 : b1 < W0.heap.size) (h2 : b2 < W0.heap.size) (h3 : b3 < W0.heap.size) (h4 : b4 < W0.heap.size) (h5 : b5 < W0.heap.size) (h6 : b6 < W0.heap.size) (h7 : b7 < W0.heap.size) (h8 : b8 < W0.heap.size) (h9 : b9 < W0.heap.size) (h10 : b10 < W0.heap.size) (h11 : b11 < W0.heap.size) (hS : Below W0.heap.size W0 w' ∧ w'.cell? ⟨b0, o0, none⟩ = some v0 ∧ w'.cell? ⟨b1, o1, none⟩ = some v1 ∧ w'.cell? ⟨b2, o2, none⟩ = some v2 ∧ w'.cell? ⟨b3, o3, none⟩ = some v3 ∧ w'.cell? ⟨b4, o4, none⟩ = some v4 ∧ w'.cell? ⟨b5, o5, none⟩ = some v5 ∧ w'.cell? ⟨b6, o6, none⟩ = some v6 ∧ w'.cell? ⟨b7, o7, none⟩ = some v7 ∧ w'.cell? ⟨b8, o8, none⟩ = some v8 ∧ w'.cell? ⟨b9, o9, none⟩ = some v9 ∧ w'.cell? ⟨b10, o10, none⟩ = some v10 ∧ w'.cell? ⟨b11, o11, none⟩ = some v11) (hb : Below w'.heap.size w' w1) : Below W0.heap.size W0 w1 ∧ w1.cell? ⟨b0, o0, none⟩ = some v0 ∧ w1.cell? ⟨b1, o1, none⟩ = some v1 ∧ w1.cell? ⟨b2, o2, none⟩ = some v2 ∧ w1.cell? ⟨b3, o3, none⟩ = some v3 ∧ w1.cell? ⟨b4, o4, none⟩ = some v4 ∧ w1.cell? ⟨b5, o5, none⟩ = some v5 ∧ w1.cell? ⟨b6, o6, none⟩ = some v6 ∧ w1.cell? ⟨b7, o7, none⟩ = some v7 ∧ w1.cell? ⟨b8, o8, none⟩ = some v8 ∧ w1.cell? ⟨b9, o9, none⟩ = some v9 ∧ w1.cell? ⟨b10, o10, none⟩ = some v10 ∧ w1.cell? ⟨b11, o11, none⟩ = some v11 := by
  obtain ⟨h, d0, d1, d2, d3, d4, d5, d6, d7, d8, d9, d10, d11⟩ := hS
  have hz := h.size
  exact ⟨h.trans (hb.mono hz), ((bcell hb).1 _ _ (by omega)).trans d0, ((bcell hb).1 _ _ (by omega)).trans d1, ((bcell hb).1 _ _ (by omega)).trans d2, ((bcell hb).1 _ _ (by omega)).trans d3, ((bcell hb).1 _ _ (by omega)).trans d4, ((bcell hb).1 _ _ (by omega)).trans d5, ((bcell hb).1 _ _ (by omega)).trans d6, ((bcell hb).1 _ _ (by omega)).trans d7, ((bcell hb).1 _ _ (by omega)).trans d8, ((bcell hb).1 _ _ (by omega)).trans d9, ((bcell hb).1 _ _ (by omega)).trans d10, ((bcell hb).1 _ _ (by omega)).trans d11⟩

set_option maxRecDepth 20000 in
set_option maxHeartbeats 4000000 in
theorem walk (k : Int) (p t : ByteArray) (d : Bool) (i : Int) (nl : List Int) (a : Option Addr) (c : Nat) (w : World) (h : IntsAt w a nl) (hn : nl.length ≤ maxLen) (hp : p.size ≤ maxLen) (ht : t.size ≤ maxLen) (hsh : w.ShapedOpen Tryd.prog) :
    Calls Tryd.prog 5 #[.agg #[.int .i64 k, .string p, .string t, .bool d, .int .i64 i, .slice a nl.length c]] w fun r w' => r = .returned (.bool true) ∧ Below w.heap.size w w' := by
  obtain ⟨mx, hm⟩ := Tryd.laysM143.s1_3 w hsh
  have hm0 : w.cell? ⟨0, 0, none⟩ = some (.int .i64 mx) := hm
  have hM : MaxAt w mx := ⟨hm0, lt_of_cell hm0⟩
  clear hsh hm hm0
  obtain ⟨W1, hW, hWz, hbx, hx⟩ := boxes1 w [.int .i64 k, .string p, .string t, .bool d, .int .i64 i, .slice a nl.length c] 31
  go_enter Tryd.func5, Tryd.ntmps5
  go_wp2_with fail
  rw [← hW]
  clear hW
  have A1 := hide (h.below (unhide hbx))
  have M1 := hide (hM.below (unhide hbx))
  have P1 := hx
  have B1 := hbx
  clear hx hbx h hM
  have ca0 := (unhide P1).cell 0
  have ca1 := (unhide P1).cell 1
  have ca2 := (unhide P1).cell 2
  have ca3 := (unhide P1).cell 3
  have ca4 := (unhide P1).cell 4
  have ca5 := (unhide P1).cell 5
  simp only [List.getElem?_cons_zero, List.getElem?_cons_succ] at ca0 ca1 ca2 ca3 ca4 ca5
  have lca : w.heap.size < W1.heap.size := by omega
  try go_wp2_with fail
  clear ca0 ca1 ca2 ca3 ca4 ca5 lca
  refine (szOp_any k p t d i nl.length a c 1048576 _ (by omega) (by omega) hp ht hn).mono ?_
  rintro e w2 ⟨⟨r, rfl, hr⟩, hb⟩
  have z2 : W1.heap.size ≤ w2.heap.size := hb.size
  have A2 := hide ((unhide A1).below hb)
  have M2 := hide ((unhide M1).below hb)
  have P2 := hide ((unhide P1).below hb)
  have B2 := hide (below_step (unhide B1) hb (by omega))
  clear hb A1 M1 P1 B1 
  by_cases hv : r < 0
  · clear hr
    go_wp2_with fail
    go_ret
    exact ⟨rfl, unhide B2⟩
  obtain ⟨hp', ht', hn'⟩ : p.size ≤ 1048576 ∧ t.size ≤ 1048576 ∧ nl.length ≤ 1048576 := by rcases hr with h | h <;> omega
  clear hr hp ht hn
  have ca0 := (unhide P2).cell 0
  have ca1 := (unhide P2).cell 1
  have ca2 := (unhide P2).cell 2
  have ca3 := (unhide P2).cell 3
  have ca4 := (unhide P2).cell 4
  have ca5 := (unhide P2).cell 5
  simp only [List.getElem?_cons_zero, List.getElem?_cons_succ] at ca0 ca1 ca2 ca3 ca4 ca5
  have lca : w.heap.size < w2.heap.size := by omega
  go_wp2_with fail
  clear ca0 ca1 ca2 ca3 ca4 ca5 lca
  refine (toOp_any k p t d i nl a c _ (unhide A2) hn').mono ?_
  rintro e w3 ⟨⟨g3, rfl, hO⟩, hb⟩
  have z3 : w2.heap.size ≤ w3.heap.size := hb.size
  have A3 := hide ((unhide A2).below hb)
  have M3 := hide ((unhide M2).below hb)
  have P3 := hide ((unhide P2).below hb)
  have B3 := hide (below_step (unhide B2) hb (by omega))
  clear hb A2 M2 P2 B2 
  have T3 := hide (intsAt_own1 hO)
  clear hO
  go_wp2_with fail
  refine (specIsMutation_any k p t d i nl (some ⟨g3, 0, none⟩) nl.length _ (unhide T3) hn' hp' ht').mono ?_
  rintro e w5 ⟨rfl, hb⟩
  clear T3
  have z5 : w3.heap.size ≤ w5.heap.size := hb.size
  have A5 := hide ((unhide A3).below hb)
  have M5 := hide ((unhide M3).below hb)
  have P5 := hide ((unhide P3).below hb)
  have B5 := hide (below_step (unhide B3) hb (by omega))
  clear hb A3 M3 P3 B3 
  have ca0 := (unhide P5).cell 0
  have ca1 := (unhide P5).cell 1
  have ca2 := (unhide P5).cell 2
  have ca3 := (unhide P5).cell 3
  have ca4 := (unhide P5).cell 4
  have ca5 := (unhide P5).cell 5
  simp only [List.getElem?_cons_zero, List.getElem?_cons_succ] at ca0 ca1 ca2 ca3 ca4 ca5
  have lca : w.heap.size < w5.heap.size := by omega
  generalize hcd : (opCode k p t d i nl == 0 && inB k 1 5) = cd at *
  have HCD := hide hcd
  clear hcd
  go_wp2_with fail
  clear ca0 ca1 ca2 ca3 ca4 ca5 lca
  refine (toOp_any k p t d i nl a c _ (unhide A5) hn').mono ?_
  rintro e w6 ⟨⟨g6, rfl, hO⟩, hb⟩
  have z6 : w5.heap.size ≤ w6.heap.size := hb.size
  have A6 := hide ((unhide A5).below hb)
  have M6 := hide ((unhide M5).below hb)
  have P6 := hide ((unhide P5).below hb)
  have B6 := hide (below_step (unhide B5) hb (by omega))
  clear hb A5 M5 P5 B5 
  have X6 := hide (intsAt_own1 hO)
  clear hO
  go_wp2_with fail
  obtain ⟨W8, hW, z8, hbx, hx⟩ := boxes1 w6 [.int .i64 k, .string p, .string t, .bool d, .int .i64 i, .slice (some ⟨g6, 0, none⟩) nl.length nl.length] 34
  rw [← hW]
  clear hW
  have A8 := hide ((unhide A6).below (unhide hbx))
  have M8 := hide ((unhide M6).below (unhide hbx))
  have P8 := hide ((unhide P6).below (unhide hbx))
  have X8 := hide ((unhide X6).below (unhide hbx))
  have B8 := hide (below_step (unhide B6) (unhide hbx) (by omega))
  have Q8 := hx
  clear hbx hx A6 M6 P6 X6 B6
  have u8 : w6.heap.size < W8.heap.size := by omega
  generalize w6.heap.size = b8 at *
  try (have cx0 := (unhide Q8).cell 0; have cx1 := (unhide Q8).cell 1; have cx2 := (unhide Q8).cell 2; have cx3 := (unhide Q8).cell 3; have cx4 := (unhide Q8).cell 4; have cx5 := (unhide Q8).cell 5; simp only [List.getElem?_cons_zero, List.getElem?_cons_succ] at cx0 cx1 cx2 cx3 cx4 cx5; go_wp2_with fail; clear cx0 cx1 cx2 cx3 cx4 cx5)
  refine (implIsMutation_any k p t d i nl (some ⟨g6, 0, none⟩) nl.length mx _ (unhide X8) (unhide M8) hn' hp' ht').mono ?_
  rintro e w9 ⟨rfl, hb⟩
  have z9 : W8.heap.size ≤ w9.heap.size := hb.size
  have A9 := hide ((unhide A8).below hb)
  have M9 := hide ((unhide M8).below hb)
  have P9 := hide ((unhide P8).below hb)
  have X9 := hide ((unhide X8).below hb)
  have Q9 := hide ((unhide Q8).below hb)
  have B9 := hide (below_step (unhide B8) hb (by omega))
  clear hb A8 M8 P8 B8 X8 Q8
  rw [unhide HCD]
  have hne := bool_neq_self cd
  have ca0 := (unhide P9).cell 0
  have ca1 := (unhide P9).cell 1
  have ca2 := (unhide P9).cell 2
  have ca3 := (unhide P9).cell 3
  have ca4 := (unhide P9).cell 4
  have ca5 := (unhide P9).cell 5
  simp only [List.getElem?_cons_zero, List.getElem?_cons_succ] at ca0 ca1 ca2 ca3 ca4 ca5
  have lca : w.heap.size < w9.heap.size := by omega
  have cx0 := (unhide Q9).cell 0
  have cx1 := (unhide Q9).cell 1
  have cx2 := (unhide Q9).cell 2
  have cx3 := (unhide Q9).cell 3
  have cx4 := (unhide Q9).cell 4
  have cx5 := (unhide Q9).cell 5
  simp only [List.getElem?_cons_zero, List.getElem?_cons_succ] at cx0 cx1 cx2 cx3 cx4 cx5
  have lcx : b8 < w9.heap.size := by omega
  have hD : (fun w' => Below w9.heap.size w9 w' ∧ w'.cell? ⟨w.heap.size, 0, none⟩ = some (.int .i64 k) ∧ w'.cell? ⟨w.heap.size, 1, none⟩ = some (.string p) ∧ w'.cell? ⟨w.heap.size, 2, none⟩ = some (.string t) ∧ w'.cell? ⟨w.heap.size, 3, none⟩ = some (.bool d) ∧ w'.cell? ⟨w.heap.size, 4, none⟩ = some (.int .i64 i) ∧ w'.cell? ⟨w.heap.size, 5, none⟩ = some (.slice a nl.length c) ∧ w'.cell? ⟨b8, 0, none⟩ = some (.int .i64 k) ∧ w'.cell? ⟨b8, 1, none⟩ = some (.string p) ∧ w'.cell? ⟨b8, 2, none⟩ = some (.string t) ∧ w'.cell? ⟨b8, 3, none⟩ = some (.bool d) ∧ w'.cell? ⟨b8, 4, none⟩ = some (.int .i64 i) ∧ w'.cell? ⟨b8, 5, none⟩ = some (.slice (some ⟨g6, 0, none⟩) nl.length nl.length)) w9.drew := ⟨(Below.refl _ _).drew, ca0, ca1, ca2, ca3, ca4, ca5, cx0, cx1, cx2, cx3, cx4, cx5⟩
  have HD := hide hD
  clear hD
  go_wp2_with fail
  clear ca0 ca1 ca2 ca3 ca4 ca5 lca cx0 cx1 cx2 cx3 cx4 cx5
  have lca : w.heap.size < w9.heap.size := by omega
  go_region_held3 (fun w' => Below w9.heap.size w9 w' ∧ w'.cell? ⟨w.heap.size, 0, none⟩ = some (.int .i64 k) ∧ w'.cell? ⟨w.heap.size, 1, none⟩ = some (.string p) ∧ w'.cell? ⟨w.heap.size, 2, none⟩ = some (.string t) ∧ w'.cell? ⟨w.heap.size, 3, none⟩ = some (.bool d) ∧ w'.cell? ⟨w.heap.size, 4, none⟩ = some (.int .i64 i) ∧ w'.cell? ⟨w.heap.size, 5, none⟩ = some (.slice a nl.length c) ∧ w'.cell? ⟨b8, 0, none⟩ = some (.int .i64 k) ∧ w'.cell? ⟨b8, 1, none⟩ = some (.string p) ∧ w'.cell? ⟨b8, 2, none⟩ = some (.string t) ∧ w'.cell? ⟨b8, 3, none⟩ = some (.bool d) ∧ w'.cell? ⟨b8, 4, none⟩ = some (.int .i64 i) ∧ w'.cell? ⟨b8, 5, none⟩ = some (.slice (some ⟨g6, 0, none⟩) nl.length nl.length)) (first | exact unhide HD | assumption | exact keepC12 lca lca lca lca lca lca lcx lcx lcx lcx lcx lcx (by assumption) (by assumption))
    (first
      | (go_at_call 14; refine (toOp_any k p t d i nl a c _ ((unhide A9).below (left (by assumption))) hn').mono ?_; rintro e w5 ⟨⟨h1, rfl, hO⟩, hb5⟩; have HO := hide (intsAt_own1 hO); clear hO)
      | (go_at_call 16; refine (eqOp_same k p t d i (some ⟨g6, 0, none⟩) _ nl.length nl.length nl _ ((unhide X9).below (left (by assumption))) (by first | exact unhide HO | exact (unhide HO).below (by assumption)) hn').mono ?_; rintro e w5 ⟨rfl, hb5⟩))
  rename_i hS
  have B10 := hide (below_step (unhide B9) hS.1 (by omega))
  clear hS HD
  go_wp2_with fail
  go_ret
  exact ⟨rfl, unhide B10⟩
end Go.Proofs.YtcccpifecojijaaDoor.fnExactIsMutation
