/-
  What laws.eqNoteS answers of the same notes.
-/
import Derived.Test.YtiopofemelninaaDoorNoteMath
import Derived.Test.YtiopofemelninaaDoorOpLaws
import Derived.Test.YtiopofemelninaaDoorStrsWalk
import Derived.Test.YtiopofemelninaaDoorDevEq
import Derived.BigQuiet
import Derived.Deep.QuietTactic
import Derived.Deep.RegionHeld3
namespace Go.Proofs.YtiopofemelninaaDoor
open Go.RowKit
set_option linter.unusedVariables false

theorem keepC24 {W0 w' w1 : World} {b0 b1 b2 b3 b4 b5 b6 b7 b8 b9 b10 b11 b12 b13 b14 b15 b16 b17 b18 b19 b20 b21 b22 b23 o0 o1 o2 o3 o4 o5 o6 o7 o8 o9 o10 o11 o12 o13 o14 o15 o16 o17 o18 o19 o20 o21 o22 o23 : Nat} {v0 v1 v2 v3 v4 v5 v6 v7 v8 v9 v10 v11 v12 v13 v14 v15 v16 v17 v18 v19 v20 v21 v22 v23 : Value} (h0 : b0 < W0.heap.size) (h1 : b1 < W0.heap.size) (h2 : b2 < W0.heap.size) (h3 : b3 < W0.heap.size) (h4 : b4 < W0.heap.size) (h5 : b5 < W0.heap.size) (h6 : b6 < W0.heap.size) (h7 : b7 < W0.heap.size) (h8 : b8 < W0.heap.size) (h9 : b9 < W0.heap.size) (h10 : b10 < W0.heap.size) (h11 : b11 < W0.heap.size) (h12 : b12 < W0.heap.size) (h13 : b13 < W0.heap.size) (h14 : b14 < W0.heap.size) (h15 : b15 < W0.heap.size) (h16 : b16 < W0.heap.size) (h17 : b17 < W0.heap.size) (h18 : b18 < W0.heap.size) (h19 : b19 < W0.heap.size) (h20 : b20 < W0.heap.size) (h21 : b21 < W0.heap.size) (h22 : b22 < W0.heap.size) (h23 : b23 < W0.heap.size) (hS : Below W0.heap.size W0 w' ∧ w'.cell? ⟨b0, o0, none⟩ = some v0 ∧ w'.cell? ⟨b1, o1, none⟩ = some v1 ∧ w'.cell? ⟨b2, o2, none⟩ = some v2 ∧ w'.cell? ⟨b3, o3, none⟩ = some v3 ∧ w'.cell? ⟨b4, o4, none⟩ = some v4 ∧ w'.cell? ⟨b5, o5, none⟩ = some v5 ∧ w'.cell? ⟨b6, o6, none⟩ = some v6 ∧ w'.cell? ⟨b7, o7, none⟩ = some v7 ∧ w'.cell? ⟨b8, o8, none⟩ = some v8 ∧ w'.cell? ⟨b9, o9, none⟩ = some v9 ∧ w'.cell? ⟨b10, o10, none⟩ = some v10 ∧ w'.cell? ⟨b11, o11, none⟩ = some v11 ∧ w'.cell? ⟨b12, o12, none⟩ = some v12 ∧ w'.cell? ⟨b13, o13, none⟩ = some v13 ∧ w'.cell? ⟨b14, o14, none⟩ = some v14 ∧ w'.cell? ⟨b15, o15, none⟩ = some v15 ∧ w'.cell? ⟨b16, o16, none⟩ = some v16 ∧ w'.cell? ⟨b17, o17, none⟩ = some v17 ∧ w'.cell? ⟨b18, o18, none⟩ = some v18 ∧ w'.cell? ⟨b19, o19, none⟩ = some v19 ∧ w'.cell? ⟨b20, o20, none⟩ = some v20 ∧ w'.cell? ⟨b21, o21, none⟩ = some v21 ∧ w'.cell? ⟨b22, o22, none⟩ = some v22 ∧ w'.cell? ⟨b23, o23, none⟩ = some v23) (hb : Below w'.heap.size w' w1) : Below W0.heap.size W0 w1 ∧ w1.cell? ⟨b0, o0, none⟩ = some v0 ∧ w1.cell? ⟨b1, o1, none⟩ = some v1 ∧ w1.cell? ⟨b2, o2, none⟩ = some v2 ∧ w1.cell? ⟨b3, o3, none⟩ = some v3 ∧ w1.cell? ⟨b4, o4, none⟩ = some v4 ∧ w1.cell? ⟨b5, o5, none⟩ = some v5 ∧ w1.cell? ⟨b6, o6, none⟩ = some v6 ∧ w1.cell? ⟨b7, o7, none⟩ = some v7 ∧ w1.cell? ⟨b8, o8, none⟩ = some v8 ∧ w1.cell? ⟨b9, o9, none⟩ = some v9 ∧ w1.cell? ⟨b10, o10, none⟩ = some v10 ∧ w1.cell? ⟨b11, o11, none⟩ = some v11 ∧ w1.cell? ⟨b12, o12, none⟩ = some v12 ∧ w1.cell? ⟨b13, o13, none⟩ = some v13 ∧ w1.cell? ⟨b14, o14, none⟩ = some v14 ∧ w1.cell? ⟨b15, o15, none⟩ = some v15 ∧ w1.cell? ⟨b16, o16, none⟩ = some v16 ∧ w1.cell? ⟨b17, o17, none⟩ = some v17 ∧ w1.cell? ⟨b18, o18, none⟩ = some v18 ∧ w1.cell? ⟨b19, o19, none⟩ = some v19 ∧ w1.cell? ⟨b20, o20, none⟩ = some v20 ∧ w1.cell? ⟨b21, o21, none⟩ = some v21 ∧ w1.cell? ⟨b22, o22, none⟩ = some v22 ∧ w1.cell? ⟨b23, o23, none⟩ = some v23 := by
  obtain ⟨h, d0, d1, d2, d3, d4, d5, d6, d7, d8, d9, d10, d11, d12, d13, d14, d15, d16, d17, d18, d19, d20, d21, d22, d23⟩ := hS
  have hz := h.size
  exact ⟨h.trans (hb.mono hz), ((bcell hb).1 _ _ (by omega)).trans d0, ((bcell hb).1 _ _ (by omega)).trans d1, ((bcell hb).1 _ _ (by omega)).trans d2, ((bcell hb).1 _ _ (by omega)).trans d3, ((bcell hb).1 _ _ (by omega)).trans d4, ((bcell hb).1 _ _ (by omega)).trans d5, ((bcell hb).1 _ _ (by omega)).trans d6, ((bcell hb).1 _ _ (by omega)).trans d7, ((bcell hb).1 _ _ (by omega)).trans d8, ((bcell hb).1 _ _ (by omega)).trans d9, ((bcell hb).1 _ _ (by omega)).trans d10, ((bcell hb).1 _ _ (by omega)).trans d11, ((bcell hb).1 _ _ (by omega)).trans d12, ((bcell hb).1 _ _ (by omega)).trans d13, ((bcell hb).1 _ _ (by omega)).trans d14, ((bcell hb).1 _ _ (by omega)).trans d15, ((bcell hb).1 _ _ (by omega)).trans d16, ((bcell hb).1 _ _ (by omega)).trans d17, ((bcell hb).1 _ _ (by omega)).trans d18, ((bcell hb).1 _ _ (by omega)).trans d19, ((bcell hb).1 _ _ (by omega)).trans d20, ((bcell hb).1 _ _ (by omega)).trans d21, ((bcell hb).1 _ _ (by omega)).trans d22, ((bcell hb).1 _ _ (by omega)).trans d23⟩
set_option maxRecDepth 20000 in
set_option maxHeartbeats 2000000 in
theorem eqReply_same (rc : Int) (rn : List Int) (rs : List ByteArray) (a2 a2' a3 a3' : Option Addr) (c2 c2' c3 c3' : Nat) (w : World) (h : IntsAt w a2 rn) (h2 : IntsAt w a2' rn) (h3 : StrsAt w a3 rs) (h4 : StrsAt w a3' rs) (hn : rn.length ≤ 1048576) (hs : rs.length ≤ 1048576) :
    Calls Tryd.prog 19 #[.agg #[.int .i64 rc, .slice a2 rn.length c2, .slice a3 rs.length c3], .agg #[.int .i64 rc, .slice a2' rn.length c2', .slice a3' rs.length c3']] w fun r w' => r = .returned (.bool true) ∧ Below w.heap.size w w' := by
  obtain ⟨W, hW, hWz, HB0, HX0, HY0⟩ := boxes2 w [.int .i64 rc, .slice a2 rn.length c2, .slice a3 rs.length c3] [.int .i64 rc, .slice a2' rn.length c2', .slice a3' rs.length c3'] 40 40
  have H := hide (h.below (unhide HB0))
  have H2 := hide (h2.below (unhide HB0))
  have H3 := hide (h3.below (unhide HB0))
  have H4 := hide (h4.below (unhide HB0))
  clear h h2 h3 h4
  have hrr := int_neq_self rc
  go_enter Tryd.func19, Tryd.ntmps19
  go_wp2_with fail
  rw [← hW]
  clear hW
  refine (eqInt64S_same a2 a2' c2 c2' rn _ (unhide H) (unhide H2) hn).mono ?_
  rintro r w3 ⟨rfl, hb3⟩
  have X3 := hide ((unhide HX0).below hb3)
  have Y3 := hide ((unhide HY0).below hb3)
  have I3 := hide ((unhide H3).below hb3)
  have I4 := hide ((unhide H4).below hb3)
  have B3 := hide (below_step (unhide HB0) hb3 (by omega))
  have z3 := hb3.size
  clear hb3 HX0 HY0 H H2 H3 H4 HB0
  have x2 := (unhide X3).cell 2
  have y2 := (unhide Y3).cell 2
  simp only [List.getElem?_cons_zero, List.getElem?_cons_succ] at x2 y2
  go_wp2_with fail
  refine (eqStringS_same a3 a3' c3 c3' rs _ (unhide I3) (unhide I4) hs).mono ?_
  rintro r w4 ⟨rfl, hb4⟩
  have B4 := hide (below_step (unhide B3) hb4 (by omega))
  clear hb4 B3 X3 Y3 x2 y2
  go_wp2_with fail
  go_ret
  exact ⟨rfl, unhide B4⟩
end Go.Proofs.YtiopofemelninaaDoor
