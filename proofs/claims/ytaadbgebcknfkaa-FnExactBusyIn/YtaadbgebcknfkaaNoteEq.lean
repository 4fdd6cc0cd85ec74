/-
  What laws.eqNoteS answers of the same notes.
-/
import Derived.Test.YtaadbgebcknfkaaNoteMath
import Derived.Test.YtaadbgebcknfkaaOpLaws
import Derived.Test.YtaadbgebcknfkaaStrsWalk
import Derived.Test.YtaadbgebcknfkaaDevEq
import Derived.BigQuiet
import Derived.Deep.QuietTactic
import Derived.Deep.RegionHeld3
namespace Go.Proofs.Ytaadbgebcknfkaa
open Go.RowKit
set_option linter.unusedVariables false

theorem keepC24 {W0 w' w1 : World} {b0 b1 b2 b3 b4 b5 b6 b7 b8 b9 b10 b11 b12 b13 b14 b15 b16 b17 b18 b19 b20 b21 b22 b23 o0 o1 o2 o3 o4 o5 o6 o7 o8 o9 o10 o11 o12 o13 o14 o15 o16 o17 o18 o19 o20 o21 o22 o23 : Nat} {v0 v1 v2 v3 v4 v5 v6 v7 v8 v9 v10 v11 v12 v13 v14 v15 v16 v17 v18 v19 v20 v21 v22 v23 : Value} (h0 : b0 < W0.heap.size) (h1 : b1 < W0.heap.size) (h2 : b2 < W0.heap.size) (h3 : b3 < W0.heap.size) (h4 : b4 < W0.heap.size) (h5 : b5 < W0.heap.size) (h6 : b6 < W0.heap.size) (h7 : b7 < W0.heap.size) (h8 : b8 < W0.heap.size) (h9 : b9 < W0.heap.size) (h10 : b10 < W0.heap.size) (h11 : b11 < W0.heap.size) (h12 : b12 < W0.heap.size) (h13 : b13 < W0.heap.size) (h14 : b14 < W0.heap.size) (h15 : b15 < W0.heap.size) (h16 : b16 < W0.heap.size) (h17 : b17 < W0.heap.size) (h18 : b18 < W0.heap.size) (h19 : b19 < W0.heap.size) (h20 : b20 < W0.heap.size) (h21 : b21 < W0.heap.size) (h22 : b22 < W0.heap.size) (h23 : b23 < W0.heap.size) (hS : Below W0.heap.size W0 w' ∧ w'.cell? ⟨b0, o0, none⟩ = some v0 ∧ w'.cell? ⟨b1, o1, none⟩ = some v1 ∧ w'.cell? ⟨b2, o2, none⟩ = some v2 ∧ w'.cell? ⟨b3, o3, none⟩ = some v3 ∧ w'.cell? ⟨b4, o4, none⟩ = some v4 ∧ w'.cell? ⟨b5, o5, none⟩ = some v5 ∧ w'.cell? ⟨b6, o6, none⟩ = some v6 ∧ w'.cell? ⟨b7, o7, none⟩ = some v7 ∧ w'.cell? ⟨b8, o8, none⟩ = some v8 ∧ w'.cell? ⟨b9, o9, none⟩ = some v9 ∧ w'.cell? ⟨b10, o10, none⟩ = some v10 ∧ w'.cell? ⟨b11, o11, none⟩ = some v11 ∧ w'.cell? ⟨b12, o12, none⟩ = some v12 ∧ w'.cell? ⟨b13, o13, none⟩ = some v13 ∧ w'.cell? ⟨b14, o14, none⟩ = some v14 ∧ w'.cell? ⟨b15, o15, none⟩ = some v15 ∧ w'.cell? ⟨b16, o16, none⟩ = some v16 ∧ w'.cell? ⟨b17, o17, none⟩ = some v17 ∧ w'.cell? ⟨b18, o18, none⟩ = some v18 ∧ w'.cell? ⟨b19, o19, none⟩ = some v19 ∧ w'.cell? ⟨b20, o20, none⟩ = some v20 ∧ w'.cell? ⟨b21, o21, none⟩ = some v21 ∧ w'.cell? ⟨b22, o22, none⟩ = some v22 ∧ w'.cell? ⟨b23, o23, none⟩ = some v23) (hb : Below w'.heap.size w' w1) : Below W0.heap.size W0 w1 ∧ w1.cell? ⟨b0, o0, none⟩ = some v0 ∧ w1.cell? ⟨b1, o1, none⟩ = some v1 ∧ w1.cell? ⟨b2, o2, none⟩ = some v2 ∧ w1.cell? ⟨b3, o3, none⟩ = some v3 ∧ w1.cell? ⟨b4, o4, none⟩ = some v4 ∧ w1.cell? ⟨b5, o5, none⟩ = some v5 ∧ w1.cell? ⟨b6, o6, none⟩ = some v6 ∧ w1.cell? ⟨b7, o7, none⟩ = some v7 ∧ w1.cell? ⟨b8, o8, none⟩ = some v8 ∧ w1.cell? ⟨b9, o9, none⟩ = some v9 ∧ w1.cell? ⟨b10, o10, none⟩ = some v10 ∧ w1.cell? ⟨b11, o11, none⟩ = some v11 ∧ w1.cell? ⟨b12, o12, none⟩ = some v12 ∧ w1.cell? ⟨b13, o13, none⟩ = some v13 ∧ w1.cell? ⟨b14, o14, none⟩ = some v14 ∧ w1.cell? ⟨b15, o15, none⟩ = some v15 ∧ w1.cell? ⟨b16, o16, none⟩ = some v16 ∧ w1.cell? ⟨b17, o17, none⟩ = some v17 ∧ w1.cell? ⟨b18, o18, none⟩ = some v18 ∧ w1.cell? ⟨b19, o19, none⟩ = some v19 ∧ w1.cell? ⟨b20, o20, none⟩ = some v20 ∧ w1.cell? ⟨b21, o21, none⟩ = some v21 ∧ w1.cell? ⟨b22, o22, none⟩ = some v22 ∧ w1.cell? ⟨b23, o23, none⟩ = some v23 := by
  obtain ⟨h, d0, d1, d2, d3, d4, d5, d6, d7, d8, d9, d10, d11, d12, d13, d14, d15, d16, d17, d18, d19, d20, d21, d22, d23⟩ := hS
  have hz := h.size
  exact ⟨h.trans (hb.mono hz), ((bcell hb).1 _ _ (by omega)).trans d0, ((bcell hb).1 _ _ (by omega)).trans d1, ((bcell hb).1 _ _ (by omega)).trans d2, ((bcell hb).1 _ _ (by omega)).trans d3, ((bcell hb).1 _ _ (by omega)).trans d4, ((bcell hb).1 _ _ (by omega)).trans d5, ((bcell hb).1 _ _ (by omega)).trans d6, ((bcell hb).1 _ _ (by omega)).trans d7, ((bcell hb).1 _ _ (by omega)).trans d8, ((bcell hb).1 _ _ (by omega)).trans d9, ((bcell hb).1 _ _ (by omega)).trans d10, ((bcell hb).1 _ _ (by omega)).trans d11, ((bcell hb).1 _ _ (by omega)).trans d12, ((bcell hb).1 _ _ (by omega)).trans d13, ((bcell hb).1 _ _ (by omega)).trans d14, ((bcell hb).1 _ _ (by omega)).trans d15, ((bcell hb).1 _ _ (by omega)).trans d16, ((bcell hb).1 _ _ (by omega)).trans d17, ((bcell hb).1 _ _ (by omega)).trans d18, ((bcell hb).1 _ _ (by omega)).trans d19, ((bcell hb).1 _ _ (by omega)).trans d20, ((bcell hb).1 _ _ (by omega)).trans d21, ((bcell hb).1 _ _ (by omega)).trans d22, ((bcell hb).1 _ _ (by omega)).trans d23⟩
set_option maxRecDepth 20000 in
set_option maxHeartbeats 2000000 in
theorem eqReply_same (rc : Int) (rn : List Int) (rs : List ByteArray) (a2 a2' a3 a3' : Option Addr) (c2 c2' c3 c3' : Nat) (w : World) (h : IntsAt w a2 rn) (h2 : IntsAt w a2' rn) (h3 : StrsAt w a3 rs) (h4 : StrsAt w a3' rs) (hn : rn.length ≤ 1048576) (hs : rs.length ≤ 1048576) :
    Calls Try.prog 129 #[.agg #[.int .i64 rc, .slice a2 rn.length c2, .slice a3 rs.length c3], .agg #[.int .i64 rc, .slice a2' rn.length c2', .slice a3' rs.length c3']] w fun r w' => r = .returned (.bool true) ∧ Below w.heap.size w w' := by
  obtain ⟨W, hW, hWz, HB0, HX0, HY0⟩ := boxes2 w [.int .i64 rc, .slice a2 rn.length c2, .slice a3 rs.length c3] [.int .i64 rc, .slice a2' rn.length c2', .slice a3' rs.length c3'] 168 168
  have H := hide (h.below (unhide HB0))
  have H2 := hide (h2.below (unhide HB0))
  have H3 := hide (h3.below (unhide HB0))
  have H4 := hide (h4.below (unhide HB0))
  clear h h2 h3 h4
  have hrr := int_neq_self rc
  go_enter Try.func129, Try.ntmps129
  go_wp2_with fail
  rw [← hW]
  clear hW
  refine (eqInt64S_same a2 a2' c2 c2' rn _ (unhide H) (unhide H2) hn).mono ?_
  rintro r w3 ⟨rfl, hb3⟩
  have X3 := hide ((unhide HX0).below hb3)
  have Y3 := hide ((unhide HY0).below hb3)
  have I3 := hide ((unhide H3).below hb3)
  have I4 := hide ((unhide H4).below hb3)
  have B3 := hide (below_step (unhide HB0) hb3 (by omega))
  have z3 := hb3.size
  clear hb3 HX0 HY0 H H2 H3 H4 HB0
  have x2 := (unhide X3).cell 2
  have y2 := (unhide Y3).cell 2
  simp only [List.getElem?_cons_zero, List.getElem?_cons_succ] at x2 y2
  go_wp2_with fail
  refine (eqStringS_same a3 a3' c3 c3' rs _ (unhide I3) (unhide I4) hs).mono ?_
  rintro r w4 ⟨rfl, hb4⟩
  have B4 := hide (below_step (unhide B3) hb4 (by omega))
  clear hb4 B3 X3 Y3 x2 y2
  go_wp2_with fail
  go_ret
  exact ⟨rfl, unhide B4⟩
set_option maxRecDepth 20000 in
set_option maxHeartbeats 4000000 in
theorem eqNote_same (x : Nte) (a1 a1' a2 a2' a3 a3' : Option Addr) (c1 c1' c2 c2' c3 c3' : Nat) (w : World) (h : NteA.side w ⟨x, a1, c1, a2, c2, a3, c3⟩) (h2 : NteA.side w ⟨x, a1', c1', a2', c2', a3', c3'⟩) (hm : NteA.small ⟨x, a1, c1, a2, c2, a3, c3⟩) :
    Calls Try.prog 105 #[.agg #[.int .i64 x.k, .int .i64 x.wo, .int .i64 x.e, .int .i64 x.ok, .string x.op, .string x.ot, .bool x.od, .int .i64 x.oi, .slice a1 x.on.length c1, .int .i64 x.rc, .slice a2 x.rn.length c2, .slice a3 x.rs.length c3], .agg #[.int .i64 x.k, .int .i64 x.wo, .int .i64 x.e, .int .i64 x.ok, .string x.op, .string x.ot, .bool x.od, .int .i64 x.oi, .slice a1' x.on.length c1', .int .i64 x.rc, .slice a2' x.rn.length c2', .slice a3' x.rs.length c3']] w fun r w' => r = .returned (.bool true) ∧ Below w.heap.size w w' := by
  obtain ⟨k, wo, e, ok, op, ot, od, oi, on, rc, rn, rs⟩ := x
  simp only at *
  obtain ⟨W, hW, hWz, HB0, HX0, HY0⟩ := boxes2 w [.int .i64 k, .int .i64 wo, .int .i64 e, .int .i64 ok, .string op, .string ot, .bool od, .int .i64 oi, .slice a1 on.length c1, .int .i64 rc, .slice a2 rn.length c2, .slice a3 rs.length c3] [.int .i64 k, .int .i64 wo, .int .i64 e, .int .i64 ok, .string op, .string ot, .bool od, .int .i64 oi, .slice a1' on.length c1', .int .i64 rc, .slice a2' rn.length c2', .slice a3' rs.length c3'] 170 170
  have H := hide (h.below (unhide HB0))
  have H2 := hide (h2.below (unhide HB0))
  have HM := hide hm
  clear h h2 hm
  have hkk := int_neq_self k
  have hww := int_neq_self wo
  have hee := int_neq_self e
  go_enter Try.func105, Try.ntmps105
  go_wp2_with fail
  rw [← hW]
  clear hW
  refine (eqOp_same ok op ot od oi a1 a1' c1 c1' on _ (unhide H).1 (unhide H2).1 (unhide HM).1).mono ?_
  rintro r w3 ⟨rfl, hb3⟩
  have X3 := hide ((unhide HX0).below hb3)
  have Y3 := hide ((unhide HY0).below hb3)
  have I3 := hide ((unhide H).below hb3)
  have I4 := hide ((unhide H2).below hb3)
  have B3 := hide (below_step (unhide HB0) hb3 (by omega))
  have z3 := hb3.size
  clear hb3 HX0 HY0 H H2 HB0
  have x9 := (unhide X3).cell 9
  have y9 := (unhide Y3).cell 9
  have x10 := (unhide X3).cell 10
  have y10 := (unhide Y3).cell 10
  have x11 := (unhide X3).cell 11
  have y11 := (unhide Y3).cell 11
  simp only [List.getElem?_cons_zero, List.getElem?_cons_succ] at x9 y9 x10 y10 x11 y11
  go_wp2_with fail
  refine (eqReply_same rc rn rs a2 a2' a3 a3' c2 c2' c3 c3' _ (unhide I3).2.1 (unhide I4).2.1 (unhide I3).2.2 (unhide I4).2.2 (unhide HM).2.1 (unhide HM).2.2).mono ?_
  rintro r w4 ⟨rfl, hb4⟩
  have B4 := hide (below_step (unhide B3) hb4 (by omega))
  clear hb4 B3 X3 Y3 x9 y9 x10 y10 x11 y11
  go_wp2_with fail
  go_ret
  exact ⟨rfl, unhide B4⟩
set_option maxRecDepth 20000 in
set_option maxHeartbeats 2000000 in
theorem eqNoteS_same (a b : Option Addr) (c d : Nat) (L M : List NteA) (w : World) (h : NtesAt w a L) (h2 : NtesAt w b M) (hn : L.length ≤ 1048576) (hs : L.map NteA.b = M.map NteA.b) :
    Calls Try.prog 71 #[.slice a L.length c, .slice b M.length d] w fun r w' => r = .returned (.bool true) ∧ Below w.heap.size w w' := by
  have hlm : L.length = M.length := by simpa using congrArg List.length hs
  have hlb : ((L.length : Int) != (M.length : Int)) = false := by simp; omega
  have HL := hide hlm
  have HSS := hide hs
  clear hlm hs
  go_enter Try.func71, Try.ntmps71
  go_wp2
  go_loopw [5] (fun i wr => ∃ k : Nat, k ≤ L.length ∧ i = .int .i64 k ∧ Hid (Below w.heap.size w wr)) (fun i _ => L.length - (intOf i).toNat)
  case atStart => exact ⟨0, Nat.zero_le _, rfl, Below.refl _ _⟩
  case round =>
    obtain ⟨k, hk, rfl, HB⟩ := hrel
    by_cases hlt : k < L.length
    · have hlt2 : k < M.length := by have := unhide HL; omega
      have hxy : L[k].b = M[k].b := by
        have := congrArg (fun l => l[k]?) (unhide HSS)
        simpa [hlt, hlt2] using this
      obtain ⟨b1, o1, rfl, hb1, hc1⟩ := h.at hlt
      obtain ⟨b2, o2, rfl, hb2, hc2⟩ := h2.at hlt2
      have hbw := unhide HB
      have hx := hc1 k hlt
      have hy := hc2 k hlt2
      generalize L[k] = x at *
      generalize M[k] = y at *
      have I1 := hide (hx.2.1.below hbw)
      have I2 : Hid (NteA.side wr ⟨x.b, y.a1, y.c1, y.a2, y.c2, y.a3, y.c3⟩) := by have := hy.2.1.below hbw; unfold NteA.side at this; rw [← hxy] at this; exact this
      have SM := hide hx.2.2
      have z0 := hbw.size
      have zb1 : b1 < wr.heap.size := by omega
      have zb2 : b2 < wr.heap.size := by omega
      have x0 : wr.cell? ⟨b1, o1 + k * 12, none⟩ = some (.int .i64 x.b.k) := (hbw.cell (p := ⟨b1, o1 + k * 12, none⟩) hb1).trans (hx.1 0 _ rfl)
      have x1 : wr.cell? ⟨b1, o1 + k * 12 + 1, none⟩ = some (.int .i64 x.b.wo) := (hbw.cell (p := ⟨b1, o1 + k * 12 + 1, none⟩) hb1).trans (hx.1 1 _ rfl)
      have x2 : wr.cell? ⟨b1, o1 + k * 12 + 2, none⟩ = some (.int .i64 x.b.e) := (hbw.cell (p := ⟨b1, o1 + k * 12 + 2, none⟩) hb1).trans (hx.1 2 _ rfl)
      have x3 : wr.cell? ⟨b1, o1 + k * 12 + 3, none⟩ = some (.int .i64 x.b.ok) := (hbw.cell (p := ⟨b1, o1 + k * 12 + 3, none⟩) hb1).trans (hx.1 3 _ rfl)
      have x4 : wr.cell? ⟨b1, o1 + k * 12 + 4, none⟩ = some (.string x.b.op) := (hbw.cell (p := ⟨b1, o1 + k * 12 + 4, none⟩) hb1).trans (hx.1 4 _ rfl)
      have x5 : wr.cell? ⟨b1, o1 + k * 12 + 5, none⟩ = some (.string x.b.ot) := (hbw.cell (p := ⟨b1, o1 + k * 12 + 5, none⟩) hb1).trans (hx.1 5 _ rfl)
      have x6 : wr.cell? ⟨b1, o1 + k * 12 + 6, none⟩ = some (.bool x.b.od) := (hbw.cell (p := ⟨b1, o1 + k * 12 + 6, none⟩) hb1).trans (hx.1 6 _ rfl)
      have x7 : wr.cell? ⟨b1, o1 + k * 12 + 7, none⟩ = some (.int .i64 x.b.oi) := (hbw.cell (p := ⟨b1, o1 + k * 12 + 7, none⟩) hb1).trans (hx.1 7 _ rfl)
      have x8 : wr.cell? ⟨b1, o1 + k * 12 + 8, none⟩ = some (.slice x.a1 x.b.on.length x.c1) := (hbw.cell (p := ⟨b1, o1 + k * 12 + 8, none⟩) hb1).trans (hx.1 8 _ rfl)
      have x9 : wr.cell? ⟨b1, o1 + k * 12 + 9, none⟩ = some (.int .i64 x.b.rc) := (hbw.cell (p := ⟨b1, o1 + k * 12 + 9, none⟩) hb1).trans (hx.1 9 _ rfl)
      have x10 : wr.cell? ⟨b1, o1 + k * 12 + 10, none⟩ = some (.slice x.a2 x.b.rn.length x.c2) := (hbw.cell (p := ⟨b1, o1 + k * 12 + 10, none⟩) hb1).trans (hx.1 10 _ rfl)
      have x11 : wr.cell? ⟨b1, o1 + k * 12 + 11, none⟩ = some (.slice x.a3 x.b.rs.length x.c3) := (hbw.cell (p := ⟨b1, o1 + k * 12 + 11, none⟩) hb1).trans (hx.1 11 _ rfl)
      have y0 : wr.cell? ⟨b2, o2 + k * 12, none⟩ = some (.int .i64 x.b.k) := (hbw.cell (p := ⟨b2, o2 + k * 12, none⟩) hb2).trans (by rw [hxy]; exact hy.1 0 _ rfl)
      have y1 : wr.cell? ⟨b2, o2 + k * 12 + 1, none⟩ = some (.int .i64 x.b.wo) := (hbw.cell (p := ⟨b2, o2 + k * 12 + 1, none⟩) hb2).trans (by rw [hxy]; exact hy.1 1 _ rfl)
      have y2 : wr.cell? ⟨b2, o2 + k * 12 + 2, none⟩ = some (.int .i64 x.b.e) := (hbw.cell (p := ⟨b2, o2 + k * 12 + 2, none⟩) hb2).trans (by rw [hxy]; exact hy.1 2 _ rfl)
      have y3 : wr.cell? ⟨b2, o2 + k * 12 + 3, none⟩ = some (.int .i64 x.b.ok) := (hbw.cell (p := ⟨b2, o2 + k * 12 + 3, none⟩) hb2).trans (by rw [hxy]; exact hy.1 3 _ rfl)
      have y4 : wr.cell? ⟨b2, o2 + k * 12 + 4, none⟩ = some (.string x.b.op) := (hbw.cell (p := ⟨b2, o2 + k * 12 + 4, none⟩) hb2).trans (by rw [hxy]; exact hy.1 4 _ rfl)
      have y5 : wr.cell? ⟨b2, o2 + k * 12 + 5, none⟩ = some (.string x.b.ot) := (hbw.cell (p := ⟨b2, o2 + k * 12 + 5, none⟩) hb2).trans (by rw [hxy]; exact hy.1 5 _ rfl)
      have y6 : wr.cell? ⟨b2, o2 + k * 12 + 6, none⟩ = some (.bool x.b.od) := (hbw.cell (p := ⟨b2, o2 + k * 12 + 6, none⟩) hb2).trans (by rw [hxy]; exact hy.1 6 _ rfl)
      have y7 : wr.cell? ⟨b2, o2 + k * 12 + 7, none⟩ = some (.int .i64 x.b.oi) := (hbw.cell (p := ⟨b2, o2 + k * 12 + 7, none⟩) hb2).trans (by rw [hxy]; exact hy.1 7 _ rfl)
      have y8 : wr.cell? ⟨b2, o2 + k * 12 + 8, none⟩ = some (.slice y.a1 x.b.on.length y.c1) := (hbw.cell (p := ⟨b2, o2 + k * 12 + 8, none⟩) hb2).trans (by rw [hxy]; exact hy.1 8 _ rfl)
      have y9 : wr.cell? ⟨b2, o2 + k * 12 + 9, none⟩ = some (.int .i64 x.b.rc) := (hbw.cell (p := ⟨b2, o2 + k * 12 + 9, none⟩) hb2).trans (by rw [hxy]; exact hy.1 9 _ rfl)
      have y10 : wr.cell? ⟨b2, o2 + k * 12 + 10, none⟩ = some (.slice y.a2 x.b.rn.length y.c2) := (hbw.cell (p := ⟨b2, o2 + k * 12 + 10, none⟩) hb2).trans (by rw [hxy]; exact hy.1 10 _ rfl)
      have y11 : wr.cell? ⟨b2, o2 + k * 12 + 11, none⟩ = some (.slice y.a3 x.b.rs.length y.c3) := (hbw.cell (p := ⟨b2, o2 + k * 12 + 11, none⟩) hb2).trans (by rw [hxy]; exact hy.1 11 _ rfl)
      clear hc1 hc2 hx hy h h2 hbw hxy
      have hD : (fun w' => Below wr.heap.size wr w' ∧ w'.cell? ⟨b1, o1 + k * 12, none⟩ = some (.int .i64 x.b.k) ∧ w'.cell? ⟨b1, o1 + k * 12 + 1, none⟩ = some (.int .i64 x.b.wo) ∧ w'.cell? ⟨b1, o1 + k * 12 + 2, none⟩ = some (.int .i64 x.b.e) ∧ w'.cell? ⟨b1, o1 + k * 12 + 3, none⟩ = some (.int .i64 x.b.ok) ∧ w'.cell? ⟨b1, o1 + k * 12 + 4, none⟩ = some (.string x.b.op) ∧ w'.cell? ⟨b1, o1 + k * 12 + 5, none⟩ = some (.string x.b.ot) ∧ w'.cell? ⟨b1, o1 + k * 12 + 6, none⟩ = some (.bool x.b.od) ∧ w'.cell? ⟨b1, o1 + k * 12 + 7, none⟩ = some (.int .i64 x.b.oi) ∧ w'.cell? ⟨b1, o1 + k * 12 + 8, none⟩ = some (.slice x.a1 x.b.on.length x.c1) ∧ w'.cell? ⟨b1, o1 + k * 12 + 9, none⟩ = some (.int .i64 x.b.rc) ∧ w'.cell? ⟨b1, o1 + k * 12 + 10, none⟩ = some (.slice x.a2 x.b.rn.length x.c2) ∧ w'.cell? ⟨b1, o1 + k * 12 + 11, none⟩ = some (.slice x.a3 x.b.rs.length x.c3) ∧ w'.cell? ⟨b2, o2 + k * 12, none⟩ = some (.int .i64 x.b.k) ∧ w'.cell? ⟨b2, o2 + k * 12 + 1, none⟩ = some (.int .i64 x.b.wo) ∧ w'.cell? ⟨b2, o2 + k * 12 + 2, none⟩ = some (.int .i64 x.b.e) ∧ w'.cell? ⟨b2, o2 + k * 12 + 3, none⟩ = some (.int .i64 x.b.ok) ∧ w'.cell? ⟨b2, o2 + k * 12 + 4, none⟩ = some (.string x.b.op) ∧ w'.cell? ⟨b2, o2 + k * 12 + 5, none⟩ = some (.string x.b.ot) ∧ w'.cell? ⟨b2, o2 + k * 12 + 6, none⟩ = some (.bool x.b.od) ∧ w'.cell? ⟨b2, o2 + k * 12 + 7, none⟩ = some (.int .i64 x.b.oi) ∧ w'.cell? ⟨b2, o2 + k * 12 + 8, none⟩ = some (.slice y.a1 x.b.on.length y.c1) ∧ w'.cell? ⟨b2, o2 + k * 12 + 9, none⟩ = some (.int .i64 x.b.rc) ∧ w'.cell? ⟨b2, o2 + k * 12 + 10, none⟩ = some (.slice y.a2 x.b.rn.length y.c2) ∧ w'.cell? ⟨b2, o2 + k * 12 + 11, none⟩ = some (.slice y.a3 x.b.rs.length y.c3)) wr.drew := ⟨(Below.refl _ _).drew, x0, x1, x2, x3, x4, x5, x6, x7, x8, x9, x10, x11, y0, y1, y2, y3, y4, y5, y6, y7, y8, y9, y10, y11⟩
      have HD := hide hD
      clear hD x0 x1 x2 x3 x4 x5 x6 x7 x8 x9 x10 x11 y0 y1 y2 y3 y4 y5 y6 y7 y8 y9 y10 y11
      go_wp2_with fail
      go_region_held3 (fun w' => Below wr.heap.size wr w' ∧ w'.cell? ⟨b1, o1 + k * 12, none⟩ = some (.int .i64 x.b.k) ∧ w'.cell? ⟨b1, o1 + k * 12 + 1, none⟩ = some (.int .i64 x.b.wo) ∧ w'.cell? ⟨b1, o1 + k * 12 + 2, none⟩ = some (.int .i64 x.b.e) ∧ w'.cell? ⟨b1, o1 + k * 12 + 3, none⟩ = some (.int .i64 x.b.ok) ∧ w'.cell? ⟨b1, o1 + k * 12 + 4, none⟩ = some (.string x.b.op) ∧ w'.cell? ⟨b1, o1 + k * 12 + 5, none⟩ = some (.string x.b.ot) ∧ w'.cell? ⟨b1, o1 + k * 12 + 6, none⟩ = some (.bool x.b.od) ∧ w'.cell? ⟨b1, o1 + k * 12 + 7, none⟩ = some (.int .i64 x.b.oi) ∧ w'.cell? ⟨b1, o1 + k * 12 + 8, none⟩ = some (.slice x.a1 x.b.on.length x.c1) ∧ w'.cell? ⟨b1, o1 + k * 12 + 9, none⟩ = some (.int .i64 x.b.rc) ∧ w'.cell? ⟨b1, o1 + k * 12 + 10, none⟩ = some (.slice x.a2 x.b.rn.length x.c2) ∧ w'.cell? ⟨b1, o1 + k * 12 + 11, none⟩ = some (.slice x.a3 x.b.rs.length x.c3) ∧ w'.cell? ⟨b2, o2 + k * 12, none⟩ = some (.int .i64 x.b.k) ∧ w'.cell? ⟨b2, o2 + k * 12 + 1, none⟩ = some (.int .i64 x.b.wo) ∧ w'.cell? ⟨b2, o2 + k * 12 + 2, none⟩ = some (.int .i64 x.b.e) ∧ w'.cell? ⟨b2, o2 + k * 12 + 3, none⟩ = some (.int .i64 x.b.ok) ∧ w'.cell? ⟨b2, o2 + k * 12 + 4, none⟩ = some (.string x.b.op) ∧ w'.cell? ⟨b2, o2 + k * 12 + 5, none⟩ = some (.string x.b.ot) ∧ w'.cell? ⟨b2, o2 + k * 12 + 6, none⟩ = some (.bool x.b.od) ∧ w'.cell? ⟨b2, o2 + k * 12 + 7, none⟩ = some (.int .i64 x.b.oi) ∧ w'.cell? ⟨b2, o2 + k * 12 + 8, none⟩ = some (.slice y.a1 x.b.on.length y.c1) ∧ w'.cell? ⟨b2, o2 + k * 12 + 9, none⟩ = some (.int .i64 x.b.rc) ∧ w'.cell? ⟨b2, o2 + k * 12 + 10, none⟩ = some (.slice y.a2 x.b.rn.length y.c2) ∧ w'.cell? ⟨b2, o2 + k * 12 + 11, none⟩ = some (.slice y.a3 x.b.rs.length y.c3)) (first | exact unhide HD | assumption | exact keepC24 zb1 zb1 zb1 zb1 zb1 zb1 zb1 zb1 zb1 zb1 zb1 zb1 zb2 zb2 zb2 zb2 zb2 zb2 zb2 zb2 zb2 zb2 zb2 zb2 (by assumption) (by assumption))
        (first
          | (go_at_call 105; refine (eqNote_same x.b x.a1 y.a1 x.a2 y.a2 x.a3 y.a3 x.c1 y.c1 x.c2 y.c2 x.c3 y.c3 _ ((unhide I1).below (And.left (by assumption))) ((unhide I2).below (And.left (by assumption))) (unhide SM)).mono ?_; rintro r w5 ⟨rfl, hb5⟩))
      rename_i hSF
      have B5 := hide (below_step (unhide HB) hSF.1 z0)
      clear hSF HD hb5
      go_wp2_with fail
      exact ⟨⟨k + 1, by omega, by go_num, B5⟩, by simp [intOf]; omega⟩
    · go_wp2_with fail
      go_ret
      exact ⟨rfl, unhide HB⟩
end Go.Proofs.Ytaadbgebcknfkaa
