/-
  The walk of laws.FnExactSameDevices: it returns true, and writes nothing that was there.
-/
import Derived.Test.YtpngbpohopkkaaaSameDevWalk
import Derived.Test.YtpngbpohopkkaaaDevSz
import Derived.Test.YtpngbpohopkkaaaDevTo2
import Derived.Test.YtpngbpohopkkaaaDevEq
namespace Go.Proofs.Ytpngbpohopkkaaa.fnExactSameDevices
open Go.RowKit

theorem sleft {W0 w' : World} {p : Prop} (h : Below W0.heap.size W0 w' ∧ p) : Below W0.heap.size W0 w' := h.1
theorem keep6 {W0 w' w1 : World} {b b2 : Nat} {v0 v1 v2 v3 v4 v5 : Value} (h3 : b < W0.heap.size) (h4 : b2 < W0.heap.size)
    (hS : Below W0.heap.size W0 w' ∧ w'.cell? ⟨b, 0, none⟩ = some v0 ∧ w'.cell? ⟨b, 1, none⟩ = some v1 ∧ w'.cell? ⟨b, 2, none⟩ = some v2 ∧ w'.cell? ⟨b2, 0, none⟩ = some v3 ∧ w'.cell? ⟨b2, 1, none⟩ = some v4 ∧ w'.cell? ⟨b2, 2, none⟩ = some v5) (hb : Below w'.heap.size w' w1) :
    Below W0.heap.size W0 w1 ∧ w1.cell? ⟨b, 0, none⟩ = some v0 ∧ w1.cell? ⟨b, 1, none⟩ = some v1 ∧ w1.cell? ⟨b, 2, none⟩ = some v2 ∧ w1.cell? ⟨b2, 0, none⟩ = some v3 ∧ w1.cell? ⟨b2, 1, none⟩ = some v4 ∧ w1.cell? ⟨b2, 2, none⟩ = some v5 := by
  obtain ⟨h, c1, c2, c3, c4, c5, c6⟩ := hS
  have hz := h.size
  exact ⟨h.trans (hb.mono h.size), ((bcell hb).1 _ _ (by omega)).trans c1, ((bcell hb).1 _ _ (by omega)).trans c2, ((bcell hb).1 _ _ (by omega)).trans c3, ((bcell hb).1 _ _ (by omega)).trans c4, ((bcell hb).1 _ _ (by omega)).trans c5, ((bcell hb).1 _ _ (by omega)).trans c6⟩

set_option maxHeartbeats 600000 in
theorem walk (a1 a2 a3 : Option Addr) (c1 c2 c3 : Nat) (D : Dev) (b1 b2 b3 : Option Addr) (d1 d2 d3 : Nat) (E : Dev) (w : World) (h : DevAt w a1 a2 a3 D) (l1 : D.words.length ≤ maxLen) (l2 : D.flights.length ≤ maxLen) (l3 : D.over.length ≤ maxLen) (h' : DevAt w b1 b2 b3 E) (m1 : E.words.length ≤ maxLen) (m2 : E.flights.length ≤ maxLen) (m3 : E.over.length ≤ maxLen) :
    Calls Try.prog 12 #[.agg #[.slice a1 D.words.length c1, .slice a2 D.flights.length c2, .slice a3 D.over.length c3], .agg #[.slice b1 E.words.length d1, .slice b2 E.flights.length d2, .slice b3 E.over.length d3]] w fun e w' => e = .returned (.bool true) ∧ Below w.heap.size w w' := by
  have HD := hide h
  have HE := hide h'
  clear h h'
  go_enter Try.func12, Try.ntmps12
  go_wp2_with fail
  obtain ⟨W0, hW, z0, b, x, y⟩ := boxes2 w [.slice a1 D.words.length c1, .slice a2 D.flights.length c2, .slice a3 D.over.length c3] [.slice b1 E.words.length d1, .slice b2 E.flights.length d2, .slice b3 E.over.length d3] 25 25
  rw [← hW]
  clear hW
  refine (szDevice_any a1 a2 a3 _ c1 _ c2 _ c3 1048576 _ (by omega) (by omega) l1 l2 l3).mono ?_
  rintro e w1 ⟨⟨r1, rfl, hr1⟩, hb1⟩
  have z1 : W0.heap.size ≤ w1.heap.size := hb1.size
  have B1 := hide (below_step (unhide b) hb1 (by omega))
  have X1 := hide ((unhide x).below hb1)
  have Y1 := hide ((unhide y).below hb1)
  clear hb1 b x y
  by_cases hv : r1 < 0
  · clear hr1
    go_wp2_with fail
    go_ret
    exact ⟨rfl, unhide B1⟩
  obtain ⟨rfl, hl⟩ : r1 = 1048576 - ((D.words.length : Int) + D.flights.length + D.over.length) ∧ ((D.words.length : Int) + D.flights.length + D.over.length) ≤ 1048576 := by rcases hr1 with h | h; (omega); exact h
  clear hr1
  have q0 := (unhide Y1).cell 0
  have q1 := (unhide Y1).cell 1
  have q2 := (unhide Y1).cell 2
  simp at q0 q1 q2
  go_wp2_with fail
  refine (szDevice_any b1 b2 b3 _ d1 _ d2 _ d3 _ _ (by omega) (by omega) m1 m2 m3).mono ?_
  rintro e w2 ⟨⟨r2, rfl, hr2⟩, hb2⟩
  have z2 : w1.heap.size ≤ w2.heap.size := hb2.size
  have B2 := hide (below_step (unhide B1) hb2 (by omega))
  have X2 := hide ((unhide X1).below hb2)
  have Y2 := hide ((unhide Y1).below hb2)
  clear hb2 B1 X1 Y1 q0 q1 q2
  by_cases hv2 : r2 < 0
  · clear hr2
    go_wp2_with fail
    go_ret
    exact ⟨rfl, unhide B2⟩
  have hl2 : ((E.words.length : Int) + E.flights.length + E.over.length) ≤ 1048576 := by rcases hr2 with h | h <;> omega
  clear hr2
  have k1 : D.words.length ≤ 1048576 := by omega
  have k2 : D.flights.length ≤ 1048576 := by omega
  have k3 : D.over.length ≤ 1048576 := by omega
  have j1 : E.words.length ≤ 1048576 := by omega
  have j2 : E.flights.length ≤ 1048576 := by omega
  have j3 : E.over.length ≤ 1048576 := by omega
  have q0 := (unhide X2).cell 0
  have q1 := (unhide X2).cell 1
  have q2 := (unhide X2).cell 2
  have p0 := (unhide Y2).cell 0
  have p1 := (unhide Y2).cell 1
  have p2 := (unhide Y2).cell 2
  simp at q0 q1 q2 p0 p1 p2
  have FD := hide ((unhide HD).below (unhide B2))
  have FE := hide ((unhide HE).below (unhide B2))
  clear l1 l2 l3 m1 m2 m3 hl hl2 hv
  generalize hbx : w.heap.size = bx at *
  have HBX := hide hbx
  clear hbx
  have hD : (fun w' => Below w2.heap.size w2 w' ∧ w'.cell? ⟨bx, 0, none⟩ = some (.slice a1 D.words.length c1) ∧ w'.cell? ⟨bx, 1, none⟩ = some (.slice a2 D.flights.length c2) ∧ w'.cell? ⟨bx, 2, none⟩ = some (.slice a3 D.over.length c3) ∧ w'.cell? ⟨bx + 1, 0, none⟩ = some (.slice b1 E.words.length d1) ∧ w'.cell? ⟨bx + 1, 1, none⟩ = some (.slice b2 E.flights.length d2) ∧ w'.cell? ⟨bx + 1, 2, none⟩ = some (.slice b3 E.over.length d3)) w2.drew := ⟨(Below.refl _ _).drew, q0, q1, q2, p0, p1, p2⟩
  go_wp2_with fail
  go_region_held3 (fun w' => Below w2.heap.size w2 w' ∧ w'.cell? ⟨bx, 0, none⟩ = some (.slice a1 D.words.length c1) ∧ w'.cell? ⟨bx, 1, none⟩ = some (.slice a2 D.flights.length c2) ∧ w'.cell? ⟨bx, 2, none⟩ = some (.slice a3 D.over.length c3) ∧ w'.cell? ⟨bx + 1, 0, none⟩ = some (.slice b1 E.words.length d1) ∧ w'.cell? ⟨bx + 1, 1, none⟩ = some (.slice b2 E.flights.length d2) ∧ w'.cell? ⟨bx + 1, 2, none⟩ = some (.slice b3 E.over.length d3)) (first | exact hD | exact keep6 (by omega) (by omega) (by assumption) (by assumption))
    (first
      | (go_at_call 15; refine (toDevice_any _ _ _ _ _ _ _ _ (by first | exact (unhide FD).below (sleft (by assumption)) | exact (unhide FE).below (sleft (by assumption))) (by assumption) (by assumption) (by assumption)).mono ?_; rintro e w5 ⟨⟨g1, g2, g3, rfl, hO⟩, hb5⟩)
      | (go_at_call 46; refine (specSameDevices_any _ _ _ _ _ _ _ _ _ _ _ _ D E _ (OwnDev.reads (OwnDev.below (D := D) (by assumption) (by assumption))) (OwnDev.reads (D := E) (by assumption)) k1 k2 k3).mono ?_; rintro e w5 ⟨rfl, hb5⟩))
  rename_i hS
  have z3 : w2.heap.size ≤ w5.heap.size := hS.1.size
  have B3 := hide ((unhide B2).trans (hS.1.mono (by omega)))
  have FD3 := hide ((unhide FD).below hS.1)
  have FE3 := hide ((unhide FE).below hS.1)
  have X3 := hide ((unhide X2).below hS.1)
  have Y3 := hide ((unhide Y2).below hS.1)
  obtain ⟨-, q0, q1, q2, p0, p1, p2⟩ := hS
  clear hD X2 Y2 B2 FD FE
  clear hO hb5
  go_wp2_with fail
  refine (toDevice_any a1 a2 a3 c1 c2 c3 D _ (unhide FD3) k1 k2 k3).mono ?_
  rintro e w6 ⟨⟨g1, g2, g3, rfl, hO⟩, hb6⟩
  have z6 : w5.heap.size ≤ w6.heap.size := hb6.size
  have B6 := hide (below_step (unhide B3) hb6 (by omega))
  have FD6 := hide ((unhide FD3).below hb6)
  have FE6 := hide ((unhide FE3).below hb6)
  have X6 := hide ((unhide X3).below hb6)
  have Y6 := hide ((unhide Y3).below hb6)
  have O6 := hide hO
  have p0 := (unhide Y6).cell 0
  have p1 := (unhide Y6).cell 1
  have p2 := (unhide Y6).cell 2
  simp at p0 p1 p2
  clear hb6 hO B3 FD3 FE3 X3 Y3
  have hy6 : bx + 1 < w6.heap.size := by omega
  go_wp2_with fail
  obtain ⟨W7, hW7, z7, b7, x7⟩ := boxes1 w6 [.slice (some ⟨g1, 0, none⟩) D.words.length D.words.length, .slice (some ⟨g2, 0, none⟩) D.flights.length D.flights.length, .slice (some ⟨g3, 0, none⟩) D.over.length D.over.length] 30
  rw [← hW7]
  clear hW7
  have B7 := hide (below_step (unhide B6) (unhide b7) (by omega))
  have FD7 := hide ((unhide FD6).below (unhide b7))
  have FE7 := hide ((unhide FE6).below (unhide b7))
  have X7 := hide ((unhide X6).below (unhide b7))
  have Y7 := hide ((unhide Y6).below (unhide b7))
  have O7 := hide ((unhide O6).below (unhide b7))
  clear B6 FD6 FE6 X6 Y6 O6 b7 p0 p1 p2
  generalize w6.heap.size = xb at *
  refine (toDevice_any b1 b2 b3 d1 d2 d3 E _ (unhide FE7) j1 j2 j3).mono ?_
  rintro e w8 ⟨⟨f1, f2, f3, rfl, hO⟩, hb8⟩
  have z8 : W7.heap.size ≤ w8.heap.size := hb8.size
  have B8 := hide (below_step (unhide B7) hb8 (by omega))
  have FD8 := hide ((unhide FD7).below hb8)
  have FE8 := hide ((unhide FE7).below hb8)
  have X8 := hide ((unhide X7).below hb8)
  have Y8 := hide ((unhide Y7).below hb8)
  have O8 := hide ((unhide O7).below hb8)
  have P8 := hide hO
  have V8 := hide ((unhide x7).below hb8)
  have v0 := (unhide V8).cell 0
  have v1 := (unhide V8).cell 1
  have v2 := (unhide V8).cell 2
  simp at v0 v1 v2
  clear hb8 hO B7 FD7 FE7 X7 Y7 O7 x7
  have hx8 : xb < w8.heap.size := by omega
  go_wp2_with fail
  obtain ⟨W9, hW9, z9, b9, u9⟩ := boxes1 w8 [.slice (some ⟨f1, 0, none⟩) E.words.length E.words.length, .slice (some ⟨f2, 0, none⟩) E.flights.length E.flights.length, .slice (some ⟨f3, 0, none⟩) E.over.length E.over.length] 30
  rw [← hW9]
  clear hW9
  have B9 := hide (below_step (unhide B8) (unhide b9) (by omega))
  have FD9 := hide ((unhide FD8).below (unhide b9))
  have FE9 := hide ((unhide FE8).below (unhide b9))
  have X9 := hide ((unhide X8).below (unhide b9))
  have Y9 := hide ((unhide Y8).below (unhide b9))
  have O9 := hide ((unhide O8).below (unhide b9))
  have P9 := hide ((unhide P8).below (unhide b9))
  have V9 := hide ((unhide V8).below (unhide b9))
  clear B8 FD8 FE8 X8 Y8 O8 P8 V8 b9 v0 v1 v2
  generalize w8.heap.size = yb at *
  refine (implSameDevices_any _ _ _ _ _ _ _ _ _ _ _ _ D E _ (unhide O9).reads (unhide P9).reads k1 k2 k3).mono ?_
  rintro e w10 ⟨rfl, hb10⟩
  have z10 : W9.heap.size ≤ w10.heap.size := hb10.size
  have B10 := hide (below_step (unhide B9) hb10 (by omega))
  have FD10 := hide ((unhide FD9).below hb10)
  have FE10 := hide ((unhide FE9).below hb10)
  have X10 := hide ((unhide X9).below hb10)
  have Y10 := hide ((unhide Y9).below hb10)
  have O10 := hide ((unhide O9).below hb10)
  have P10 := hide ((unhide P9).below hb10)
  have V10 := hide ((unhide V9).below hb10)
  have U10 := hide ((unhide u9).below hb10)
  clear hb10 B9 FD9 FE9 X9 Y9 O9 P9 V9 u9
  have q0 := (unhide X10).cell 0
  have q1 := (unhide X10).cell 1
  have q2 := (unhide X10).cell 2
  have v0 := (unhide V10).cell 0
  have v1 := (unhide V10).cell 1
  have v2 := (unhide V10).cell 2
  simp at q0 q1 q2 v0 v1 v2
  have hnb := bool_neq_self (sameDev D E)
  generalize sameDev D E = sd at *
  have hD : (fun w' => Below w10.heap.size w10 w' ∧ w'.cell? ⟨bx, 0, none⟩ = some (.slice a1 D.words.length c1) ∧ w'.cell? ⟨bx, 1, none⟩ = some (.slice a2 D.flights.length c2) ∧ w'.cell? ⟨bx, 2, none⟩ = some (.slice a3 D.over.length c3) ∧ w'.cell? ⟨xb, 0, none⟩ = some (.slice (some ⟨g1, 0, none⟩) D.words.length D.words.length) ∧ w'.cell? ⟨xb, 1, none⟩ = some (.slice (some ⟨g2, 0, none⟩) D.flights.length D.flights.length) ∧ w'.cell? ⟨xb, 2, none⟩ = some (.slice (some ⟨g3, 0, none⟩) D.over.length D.over.length)) w10.drew := ⟨(Below.refl _ _).drew, q0, q1, q2, v0, v1, v2⟩
  go_wp2_with fail
  go_region_held3 (fun w' => Below w10.heap.size w10 w' ∧ w'.cell? ⟨bx, 0, none⟩ = some (.slice a1 D.words.length c1) ∧ w'.cell? ⟨bx, 1, none⟩ = some (.slice a2 D.flights.length c2) ∧ w'.cell? ⟨bx, 2, none⟩ = some (.slice a3 D.over.length c3) ∧ w'.cell? ⟨xb, 0, none⟩ = some (.slice (some ⟨g1, 0, none⟩) D.words.length D.words.length) ∧ w'.cell? ⟨xb, 1, none⟩ = some (.slice (some ⟨g2, 0, none⟩) D.flights.length D.flights.length) ∧ w'.cell? ⟨xb, 2, none⟩ = some (.slice (some ⟨g3, 0, none⟩) D.over.length D.over.length)) (first | exact hD | exact keep6 (by omega) (by omega) (by assumption) (by assumption))
    (first
      | (go_at_call 15; refine (toDevice_any _ _ _ _ _ _ _ _ ((unhide FD10).below (sleft (by assumption))) k1 k2 k3).mono ?_; rintro e w5 ⟨⟨h1, h2, h3, rfl, hO⟩, hb5⟩)
      | (go_at_call 17; refine (eqDevice_same _ _ _ _ _ _ _ _ _ _ _ _ D _ ((unhide O10).reads.below (sleft (by assumption))) (OwnDev.reads (D := D) (by assumption)) k1 k2 k3).mono ?_; rintro e w5 ⟨rfl, hb5⟩))
  rename_i hS
  have z11 : w10.heap.size ≤ w5.heap.size := hS.1.size
  have B11 := hide ((unhide B10).trans (hS.1.mono (by omega)))
  have FE11 := hide ((unhide FE10).below hS.1)
  have Y11 := hide ((unhide Y10).below hS.1)
  have P11 := hide ((unhide P10).below hS.1)
  have U11 := hide ((unhide U10).below hS.1)
  clear hS hD X10 Y10 B10 FD10 FE10 O10 P10 V10 U10
  have q0 := (unhide Y11).cell 0
  have q1 := (unhide Y11).cell 1
  have q2 := (unhide Y11).cell 2
  have v0 := (unhide U11).cell 0
  have v1 := (unhide U11).cell 1
  have v2 := (unhide U11).cell 2
  simp at q0 q1 q2 v0 v1 v2
  clear hb5
  generalize hw11 : w5 = w11 at *
  clear hw11
  have hD : (fun w' => Below w11.heap.size w11 w' ∧ w'.cell? ⟨bx + 1, 0, none⟩ = some (.slice b1 E.words.length d1) ∧ w'.cell? ⟨bx + 1, 1, none⟩ = some (.slice b2 E.flights.length d2) ∧ w'.cell? ⟨bx + 1, 2, none⟩ = some (.slice b3 E.over.length d3) ∧ w'.cell? ⟨yb, 0, none⟩ = some (.slice (some ⟨f1, 0, none⟩) E.words.length E.words.length) ∧ w'.cell? ⟨yb, 1, none⟩ = some (.slice (some ⟨f2, 0, none⟩) E.flights.length E.flights.length) ∧ w'.cell? ⟨yb, 2, none⟩ = some (.slice (some ⟨f3, 0, none⟩) E.over.length E.over.length)) w11.drew := ⟨(Below.refl _ _).drew, q0, q1, q2, v0, v1, v2⟩
  go_wp2_with fail
  go_region_held3 (fun w' => Below w11.heap.size w11 w' ∧ w'.cell? ⟨bx + 1, 0, none⟩ = some (.slice b1 E.words.length d1) ∧ w'.cell? ⟨bx + 1, 1, none⟩ = some (.slice b2 E.flights.length d2) ∧ w'.cell? ⟨bx + 1, 2, none⟩ = some (.slice b3 E.over.length d3) ∧ w'.cell? ⟨yb, 0, none⟩ = some (.slice (some ⟨f1, 0, none⟩) E.words.length E.words.length) ∧ w'.cell? ⟨yb, 1, none⟩ = some (.slice (some ⟨f2, 0, none⟩) E.flights.length E.flights.length) ∧ w'.cell? ⟨yb, 2, none⟩ = some (.slice (some ⟨f3, 0, none⟩) E.over.length E.over.length)) (first | exact hD | exact keep6 (by omega) (by omega) (by assumption) (by assumption))
    (first
      | (go_at_call 15; refine (toDevice_any _ _ _ _ _ _ _ _ ((unhide FE11).below (sleft (by assumption))) j1 j2 j3).mono ?_; rintro e w5 ⟨⟨h1, h2, h3, rfl, hO⟩, hb5⟩)
      | (go_at_call 17; refine (eqDevice_same _ _ _ _ _ _ _ _ _ _ _ _ E _ ((unhide P11).reads.below (sleft (by assumption))) (OwnDev.reads (D := E) (by assumption)) j1 j2 j3).mono ?_; rintro e w5 ⟨rfl, hb5⟩))
  rename_i hS
  have B12 := hide ((unhide B11).trans (hS.1.mono (by omega)))
  clear hS hD
  go_wp2_with fail
  go_ret
  exact ⟨rfl, by rw [unhide HBX]; exact unhide B12⟩
end Go.Proofs.Ytpngbpohopkkaaa.fnExactSameDevices
