/-
  What spec.SameDevices and impl.SameDevices answer.
-/
import Derived.Test.YtdnfadbkpajloaaEqB
import Derived.Test.YtdnfadbkpajloaaOwnDev
namespace Go.Proofs.Ytdnfadbkpajloaa
open Go.RowKit

def sameDev (D E : Dev) : Bool := decide (D.words = E.words) && decide (D.flights = E.flights) && decide (D.over = E.over)

set_option maxHeartbeats 1000000 in
theorem specSameDevices_any (a1 a2 a3 b1 b2 b3 : Option Addr) (c1 c2 c3 d1 d2 d3 : Nat) (D E : Dev) (w : World) (h : DevAt w a1 a2 a3 D) (h' : DevAt w b1 b2 b3 E) (n1 : D.words.length ≤ 1048576) (n2 : D.flights.length ≤ 1048576) (n3 : D.over.length ≤ 1048576) :
    Calls Try.prog 132 #[.agg #[.slice a1 D.words.length c1, .slice a2 D.flights.length c2, .slice a3 D.over.length c3], .agg #[.slice b1 E.words.length d1, .slice b2 E.flights.length d2, .slice b3 E.over.length d3]] w fun e w' => e = .returned (.bool (sameDev D E)) ∧ Below w.heap.size w w' := by
  have H := hide h
  have H' := hide h'
  clear h h'
  go_enter Try.func132, Try.ntmps132
  go_wp2_with fail
  obtain ⟨W, hW, z1, b, x, y⟩ := boxes2 w [.slice a1 D.words.length c1, .slice a2 D.flights.length c2, .slice a3 D.over.length c3] [.slice b1 E.words.length d1, .slice b2 E.flights.length d2, .slice b3 E.over.length d3] 27 27
  rw [← hW]
  clear hW
  refine (l1Same_any a1 b1 c1 d1 D.words E.words _ ((unhide H).below (unhide b)).r1 ((unhide H').below (unhide b)).r1 n1).mono ?_
  rintro e w2 ⟨rfl, hb2⟩
  have z2 : W.heap.size ≤ w2.heap.size := hb2.size
  have B2 := hide (below_step (unhide b) hb2 (by omega))
  have x2 := (unhide x).below hb2
  have y2 := (unhide y).below hb2
  have q1 := x2.cell 1
  have q2 := y2.cell 1
  have X2 := hide x2
  have Y2 := hide y2
  simp at q1 q2
  clear hb2 b x y x2 y2
  cases hw : decide (D.words = E.words)
  · have HR : Hid (sameDev D E = false) := by simp [Hid, sameDev, hw]
    clear hw
    go_wp2_with fail
    go_ret
    exact ⟨ret_bool (unhide HR).symm, unhide B2⟩
  have HW := hide hw
  clear hw
  go_wp2_with fail
  refine (l2SameCells_any a2 b2 c2 d2 D.flights E.flights _ ((unhide H).below (unhide B2)).r2 ((unhide H').below (unhide B2)).r2 n2).mono ?_
  rintro e w3 ⟨rfl, hb3⟩
  have z3 : w2.heap.size ≤ w3.heap.size := hb3.size
  have B3 := hide (below_step (unhide B2) hb3 (by omega))
  have x3 := (unhide X2).below hb3
  have y3 := (unhide Y2).below hb3
  have q3 := x3.cell 2
  have q4 := y3.cell 2
  simp at q3 q4
  clear hb3 x3 y3 X2 Y2 B2 q1 q2
  cases hw : decide (D.flights = E.flights)
  · have HR : Hid (sameDev D E = false) := by simp [Hid, sameDev, hw]
    clear hw
    go_wp2_with fail
    go_ret
    exact ⟨ret_bool (unhide HR).symm, unhide B3⟩
  have HF := hide hw
  clear hw
  go_wp2_with fail
  refine (l2SameCells_any a3 b3 c3 d3 D.over E.over _ ((unhide H).below (unhide B3)).r3 ((unhide H').below (unhide B3)).r3 n3).mono ?_
  rintro e w4 ⟨rfl, hb4⟩
  have B4 := hide (below_step (unhide B3) hb4 (by omega))
  clear hb4
  have HR : Hid (sameDev D E = decide (D.over = E.over)) := by
    have h1 := unhide HW
    have h2 := unhide HF
    simp only [Hid, sameDev, h1, h2, Bool.true_and]
  generalize decide (D.over = E.over) = r at *
  go_wp2_with fail
  go_ret
  exact ⟨ret_bool (unhide HR).symm, unhide B4⟩

set_option maxHeartbeats 1000000 in
theorem implSameDevices_any (a1 a2 a3 b1 b2 b3 : Option Addr) (c1 c2 c3 d1 d2 d3 : Nat) (D E : Dev) (w : World) (h : DevAt w a1 a2 a3 D) (h' : DevAt w b1 b2 b3 E) (n1 : D.words.length ≤ 1048576) (n2 : D.flights.length ≤ 1048576) (n3 : D.over.length ≤ 1048576) :
    Calls Try.prog 134 #[.agg #[.slice a1 D.words.length c1, .slice a2 D.flights.length c2, .slice a3 D.over.length c3], .agg #[.slice b1 E.words.length d1, .slice b2 E.flights.length d2, .slice b3 E.over.length d3]] w fun e w' => e = .returned (.bool (sameDev D E)) ∧ Below w.heap.size w w' := by
  have H := hide h
  have H' := hide h'
  clear h h'
  go_enter Try.func134, Try.ntmps134
  go_wp2_with fail
  obtain ⟨W, hW, z1, b, x, y⟩ := boxes2 w [.slice a1 D.words.length c1, .slice a2 D.flights.length c2, .slice a3 D.over.length c3] [.slice b1 E.words.length d1, .slice b2 E.flights.length d2, .slice b3 E.over.length d3] 27 27
  rw [← hW]
  clear hW
  refine (eqInts_any a1 b1 c1 d1 D.words E.words _ ((unhide H).below (unhide b)).r1 ((unhide H').below (unhide b)).r1 n1).mono ?_
  rintro e w2 ⟨rfl, hb2⟩
  have z2 : W.heap.size ≤ w2.heap.size := hb2.size
  have B2 := hide (below_step (unhide b) hb2 (by omega))
  have x2 := (unhide x).below hb2
  have y2 := (unhide y).below hb2
  have q1 := x2.cell 1
  have q2 := y2.cell 1
  have X2 := hide x2
  have Y2 := hide y2
  simp at q1 q2
  clear hb2 b x y x2 y2
  cases hw : decide (D.words = E.words)
  · have HR : Hid (sameDev D E = false) := by simp [Hid, sameDev, hw]
    clear hw
    go_wp2_with fail
    go_ret
    exact ⟨ret_bool (unhide HR).symm, unhide B2⟩
  have HW := hide hw
  clear hw
  go_wp2_with fail
  refine (eqCells_any a2 b2 c2 d2 D.flights E.flights _ ((unhide H).below (unhide B2)).r2 ((unhide H').below (unhide B2)).r2 n2).mono ?_
  rintro e w3 ⟨rfl, hb3⟩
  have z3 : w2.heap.size ≤ w3.heap.size := hb3.size
  have B3 := hide (below_step (unhide B2) hb3 (by omega))
  have x3 := (unhide X2).below hb3
  have y3 := (unhide Y2).below hb3
  have q3 := x3.cell 2
  have q4 := y3.cell 2
  simp at q3 q4
  clear hb3 x3 y3 X2 Y2 B2 q1 q2
  cases hw : decide (D.flights = E.flights)
  · have HR : Hid (sameDev D E = false) := by simp [Hid, sameDev, hw]
    clear hw
    go_wp2_with fail
    go_ret
    exact ⟨ret_bool (unhide HR).symm, unhide B3⟩
  have HF := hide hw
  clear hw
  go_wp2_with fail
  refine (eqCells_any a3 b3 c3 d3 D.over E.over _ ((unhide H).below (unhide B3)).r3 ((unhide H').below (unhide B3)).r3 n3).mono ?_
  rintro e w4 ⟨rfl, hb4⟩
  have B4 := hide (below_step (unhide B3) hb4 (by omega))
  clear hb4
  have HR : Hid (sameDev D E = decide (D.over = E.over)) := by
    have h1 := unhide HW
    have h2 := unhide HF
    simp only [Hid, sameDev, h1, h2, Bool.true_and]
  generalize decide (D.over = E.over) = r at *
  go_wp2_with fail
  go_ret
  exact ⟨ret_bool (unhide HR).symm, unhide B4⟩

end Go.Proofs.Ytdnfadbkpajloaa
