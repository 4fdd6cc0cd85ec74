/-
  What the laws' own copies of devices answer: a new device, the same.
-/
import Derived.Test.YtaadbgebcknfkaaDevTo
import Derived.Test.YtaadbgebcknfkaaOwnDev
namespace Go.Proofs.Ytaadbgebcknfkaa
open Go.RowKit

set_option maxHeartbeats 1000000 in
theorem toDevice_any (a1 a2 a3 : Option Addr) (c1 c2 c3 : Nat) (D : Dev) (w : World) (h : DevAt w a1 a2 a3 D) (h1 : D.words.length ≤ 1048576) (h2 : D.flights.length ≤ 1048576) (h3 : D.over.length ≤ 1048576) :
    Calls Try.prog 62 #[.agg #[.slice a1 D.words.length c1, .slice a2 D.flights.length c2, .slice a3 D.over.length c3]] w fun e w' => (∃ g1 g2 g3, e = .returned (.agg #[.slice (some ⟨g1, 0, none⟩) D.words.length D.words.length, .slice (some ⟨g2, 0, none⟩) D.flights.length D.flights.length, .slice (some ⟨g3, 0, none⟩) D.over.length D.over.length]) ∧ OwnDev w' w.heap.size (.slice (some ⟨g1, 0, none⟩) D.words.length D.words.length) (.slice (some ⟨g2, 0, none⟩) D.flights.length D.flights.length) (.slice (some ⟨g3, 0, none⟩) D.over.length D.over.length) D) ∧ Below w.heap.size w w' := by
  have H1 := hide h.r1
  have H2 := hide h.r2
  have H3 := hide h.r3
  clear h
  go_enter Try.func62, Try.ntmps62
  go_wp2_with fail
  obtain ⟨W1, hW1, z1, b1, x1, y1, o1⟩ := boxes3 w [.slice a1 D.words.length c1, .slice a2 D.flights.length c2, .slice a3 D.over.length c3] [.slice none 0 0, .slice none 0 0, .slice none 0 0] [.slice none 0 0, .slice none 0 0, .slice none 0 0] 54 66 66
  rw [← hW1]
  clear hW1
  refine (toInt64S_any a1 c1 D.words _ ((unhide H1).below (unhide b1)) h1).mono ?_
  rintro e w2 ⟨rfl, p2, hb2⟩
  have z2 : W1.heap.size ≤ w2.heap.size := hb2.size
  have X2 := hide ((unhide x1).below hb2)
  have O2 := hide ((unhide o1).below hb2)
  have Y2 := hide ((unhide y1).below hb2)
  have P2 := hide p2
  have L2 := ((unhide P2).lt _ rfl).2
  have B2 := hide (below_step (unhide b1) hb2 (by omega))
  clear hb2 p2 x1 y1 o1 b1
  have q1 := (unhide X2).cell 1
  have qo := (unhide O2).cell 0
  have qf := (unhide O2).frozen 0
  simp at q1 qo
  go_wp2_with fail
  clear q1 qo qf
  generalize hW3 : w2.setCell _ _ = W3
  have O3 := hide ((unhide O2).set' hW3)
  have X3 := hide ((unhide X2).other' hW3 (by dsimp only; omega))
  have Y3 := hide ((unhide Y2).other' hW3 (by dsimp only; omega))
  have B3 := hide (below_set' (unhide B2) hW3 (by simp; omega))
  have P3 := hide (own_set' (unhide P2) hW3 (by simp [Value.ownBlock]; omega))
  have z3 := size_set' hW3
  clear hW3 O2 X2 Y2 B2 P2
  refine (toCellS_any a2 c2 D.flights _ ((unhide H2).below (unhide B3)) h2).mono ?_
  rintro e w4 ⟨rfl, p4, hb4⟩
  have z4 : W3.heap.size ≤ w4.heap.size := hb4.size
  have X4 := hide ((unhide X3).below hb4)
  have O4 := hide ((unhide O3).below hb4)
  have Y4 := hide ((unhide Y3).below hb4)
  have P4 := hide (own_below (unhide P3) hb4)
  have Q4 := hide p4
  have L4 := ((unhide Q4).lt _ rfl).2
  have B4 := hide (below_step (unhide B3) hb4 (by omega))
  clear hb4 p4 X3 O3 Y3 P3 B3
  have q1 := (unhide X4).cell 2
  have qo := (unhide O4).cell 1
  have qf := (unhide O4).frozen 1
  simp at q1 qo
  go_wp2_with fail
  clear q1 qo qf
  generalize hW5 : w4.setCell _ _ = W5
  have O5 := hide ((unhide O4).set' hW5)
  have Y5 := hide ((unhide Y4).other' hW5 (by dsimp only; omega))
  have B5 := hide (below_set' (unhide B4) hW5 (by simp; omega))
  have P5 := hide (own_set' (unhide P4) hW5 (by simp [Value.ownBlock]; omega))
  have Q5 := hide (own_set' (unhide Q4) hW5 (by simp [Value.ownBlock]; omega))
  have z5 := size_set' hW5
  clear hW5 O4 X4 Y4 B4 P4 Q4
  refine (toCellS_any a3 c3 D.over _ ((unhide H3).below (unhide B5)) h3).mono ?_
  rintro e w6 ⟨rfl, p6, hb6⟩
  have z6 : W5.heap.size ≤ w6.heap.size := hb6.size
  have O6 := hide ((unhide O5).below hb6)
  have Y6 := hide ((unhide Y5).below hb6)
  have P6 := hide (own_below (unhide P5) hb6)
  have Q6 := hide (own_below (unhide Q5) hb6)
  have R6 := hide p6
  have B6 := hide (below_step (unhide B5) hb6 (by omega))
  clear hb6 p6 O5 Y5 P5 Q5 B5
  have q0 := (unhide O6).cell 0
  have q1 := (unhide O6).cell 1
  have q2 := (unhide O6).cell 2
  have qf := (unhide O6).frozen 2
  have y0 := (unhide Y6).cell 0
  have y1 := (unhide Y6).cell 1
  have y2 := (unhide Y6).cell 2
  have f0 := (unhide Y6).frozen 0
  have f1 := (unhide Y6).frozen 1
  have f2 := (unhide Y6).frozen 2
  simp at q0 q1 q2 y0 y1 y2
  go_wp2_with fail
  clear q0 q1 q2 qf y0 y1 y2 f0 f1 f2
  generalize hU1 : w6.setCell _ _ = U1
  have Y7 := hide ((unhide Y6).other' hU1 (by dsimp only; omega))
  have P7 := hide (own_set' (unhide P6) hU1 (by simp [Value.ownBlock]; omega))
  have Q7 := hide (own_set' (unhide Q6) hU1 (by simp [Value.ownBlock]; omega))
  have R7 := hide (own_set' (unhide R6) hU1 (by simp [Value.ownBlock]; omega))
  have B7 := hide (below_set' (unhide B6) hU1 (by dsimp only; omega))
  clear hU1 Y6 P6 Q6 R6 B6 O6
  generalize hU2 : U1.setCell _ _ = U2
  have Y8 := hide ((unhide Y7).set' hU2)
  have P8 := hide (own_set' (unhide P7) hU2 (by simp [Value.ownBlock]; omega))
  have Q8 := hide (own_set' (unhide Q7) hU2 (by simp [Value.ownBlock]; omega))
  have R8 := hide (own_set' (unhide R7) hU2 (by simp [Value.ownBlock]; omega))
  have B8 := hide (below_set' (unhide B7) hU2 (by dsimp only; omega))
  clear hU2 Y7 P7 Q7 R7 B7
  generalize hU3 : U2.setCell _ _ = U3
  have Y9 := hide ((unhide Y8).set' hU3)
  have P9 := hide (own_set' (unhide P8) hU3 (by simp [Value.ownBlock]; omega))
  have Q9 := hide (own_set' (unhide Q8) hU3 (by simp [Value.ownBlock]; omega))
  have R9 := hide (own_set' (unhide R8) hU3 (by simp [Value.ownBlock]; omega))
  have B9 := hide (below_set' (unhide B8) hU3 (by dsimp only; omega))
  clear hU3 Y8 P8 Q8 R8 B8
  generalize hU4 : U3.setCell _ _ = U4
  have Y10 := (unhide Y9).set' hU4
  have P10 := own_set' (unhide P9) hU4 (by simp [Value.ownBlock]; omega)
  have Q10 := own_set' (unhide Q9) hU4 (by simp [Value.ownBlock]; omega)
  have R10 := own_set' (unhide R9) hU4 (by simp [Value.ownBlock]; omega)
  have B10 := below_set' (unhide B9) hU4 (by dsimp only; omega)
  clear hU4 Y9 P9 Q9 R9 B9
  have t0 := Y10.cell 0
  have t1 := Y10.cell 1
  have t2 := Y10.cell 2
  simp at t0 t1 t2
  refine bodyPost_ret (v := .agg #[.slice (some ⟨W1.heap.size, 0, none⟩) D.words.length D.words.length, .slice (some ⟨W3.heap.size, 0, none⟩) D.flights.length D.flights.length, .slice (some ⟨W5.heap.size, 0, none⟩) D.over.length D.over.length]) (by simp [results, Try.results62, go_sem, t0, t1, t2]) rfl ⟨⟨W1.heap.size, W3.heap.size, W5.heap.size, rfl, ?_⟩, B10⟩
  exact ⟨own_base P10 (by simp [Value.ownBlock]; omega), own_base Q10 (by simp [Value.ownBlock]; omega), own_base R10 (by simp [Value.ownBlock]; omega), by simp [Value.ownBlock]; omega, by simp [Value.ownBlock]; omega, by simp [Value.ownBlock]; omega⟩
end Go.Proofs.Ytaadbgebcknfkaa
