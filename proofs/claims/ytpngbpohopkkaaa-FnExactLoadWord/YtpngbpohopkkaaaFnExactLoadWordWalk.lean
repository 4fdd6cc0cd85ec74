/-
  The walk of laws.FnExactLoadWord: it returns true, and writes nothing that was there.
-/
import Derived.Test.YtpngbpohopkkaaaLoadWalk
import Derived.Test.YtpngbpohopkkaaaEqWalk
import Derived.Test.YtpngbpohopkkaaaLawsKit
namespace Go.Proofs.Ytpngbpohopkkaaa.fnExactLoadWord
open Go.RowKit

set_option maxHeartbeats 2000000 in
theorem walk (a1 a2 a3 : Option Addr) (c1 c2 c3 : Nat) (D : Dev) (n : Int) (w : World) (h : DevAt w a1 a2 a3 D) (l1 : D.words.length ≤ maxLen) (l2 : D.flights.length ≤ maxLen) (l3 : D.over.length ≤ maxLen) (_wn : (Lit.int .i64 n).wf = true) :
    Calls Try.prog 5 #[.agg #[.slice a1 D.words.length c1, .slice a2 D.flights.length c2, .slice a3 D.over.length c3], .int .i64 n] w fun e w' => e = .returned (.bool true) ∧ Below w.heap.size w w' := by
  have A0 := hide h
  clear h
  go_enter Try.func5, Try.ntmps5
  go_wp2_with fail
  obtain ⟨W1, hW, z1, hbx, hx⟩ := boxes1 w [.slice a1 D.words.length c1, .slice a2 D.flights.length c2, .slice a3 D.over.length c3] 25
  rw [← hW]
  clear hW
  have A1 := hide ((unhide A0).below (unhide hbx))
  have B1 := hbx
  have P1 := hx
  clear hbx hx A0
  refine (szDevice_any a1 a2 a3 _ c1 _ c2 _ c3 1048576 _ (by omega) (by omega) l1 l2 l3).mono ?_
  rintro e w2 ⟨⟨r, rfl, hr⟩, hb⟩
  have z2 : W1.heap.size ≤ w2.heap.size := hb.size
  have A2 := hide ((unhide A1).below hb)
  have P2 := hide ((unhide P1).below hb)
  have B2 := hide (below_step (unhide B1) hb (by omega))
  clear hb A1 P1 B1
  by_cases hv : r < 0
  · clear hr
    go_wp2_with fail
    go_ret
    exact ⟨rfl, unhide B2⟩
  have hl : ((D.words.length : Int) + D.flights.length + D.over.length) ≤ 1048576 := by rcases hr with h | h <;> omega
  clear hr
  have k1 : D.words.length ≤ 1048576 := by omega
  have k2 : D.flights.length ≤ 1048576 := by omega
  have k3 : D.over.length ≤ 1048576 := by omega
  clear l1 l2 l3 hl
  have ca0 := (unhide P2).cell 0
  have ca1 := (unhide P2).cell 1
  have ca2 := (unhide P2).cell 2
  simp at ca0 ca1 ca2
  have lca : w.heap.size < w2.heap.size := by omega
  go_wp2_with fail
  clear ca0 ca1 ca2 lca
  refine (toDevice_any _ _ _ _ _ _ D _ (unhide A2) k1 k2 k3).mono ?_
  rintro e w3 ⟨⟨t1, t2, t3, rfl, hO⟩, hb⟩
  have z3 : w2.heap.size ≤ w3.heap.size := hb.size
  have A3 := hide ((unhide A2).below hb)
  have P3 := hide ((unhide P2).below hb)
  have B3 := hide (below_step (unhide B2) hb (by omega))
  clear hb A2 P2 B2
  have T4 := hide hO
  have LT := hide (fun q hq => OwnDev.lt (q := q) hO hq)
  clear hO
  go_wp2_with fail
  refine (specLoadWord_any _ _ _ _ _ _ D n _ (unhide T4).reads k1 k2 k3).mono ?_
  rintro e w5 ⟨rfl, hb⟩
  have z5 : w3.heap.size ≤ w5.heap.size := hb.size
  have A5 := hide ((unhide A3).below hb)
  have P5 := hide ((unhide P3).below hb)
  have T5 := hide ((unhide T4).below hb)
  have B5 := hide (below_step (unhide B3) hb (by omega))
  clear hb A3 P3 T4 B3
  have ca0 := (unhide P5).cell 0
  have ca1 := (unhide P5).cell 1
  have ca2 := (unhide P5).cell 2
  simp at ca0 ca1 ca2
  have lca : w.heap.size < w5.heap.size := by omega
  generalize hcd : loadCode D n = cd at *
  have HCD := hide hcd
  clear hcd
  generalize hvl : loadVal D n = vl at *
  have HVL := hide hvl
  clear hvl
  go_wp2_with fail
  clear ca0 ca1 ca2 lca
  obtain ⟨W6, hW, z6, hbx, hx⟩ := boxes1 w5 [.int .i64 cd, .int .i64 vl] 41
  rw [← hW]
  clear hW
  have A6 := hide ((unhide A5).below (unhide hbx))
  have P6 := hide ((unhide P5).below (unhide hbx))
  have B6 := hide (below_step (unhide B5) (unhide hbx) (by omega))
  have R6 := hx
  clear hbx hx A5 P5 B5
  have u6 : w5.heap.size < W6.heap.size := by omega
  generalize w5.heap.size = b6 at *
  refine (toDevice_any _ _ _ _ _ _ D _ (unhide A6) k1 k2 k3).mono ?_
  rintro e w7 ⟨⟨x1, x2, x3, rfl, hO⟩, hb⟩
  have z7 : W6.heap.size ≤ w7.heap.size := hb.size
  have A7 := hide ((unhide A6).below hb)
  have P7 := hide ((unhide P6).below hb)
  have R7 := hide ((unhide R6).below hb)
  have B7 := hide (below_step (unhide B6) hb (by omega))
  clear hb A6 P6 R6 B6
  have X8 := hide hO
  have LX := hide (fun q hq => OwnDev.lt (q := q) hO hq)
  clear hO
  go_wp2_with fail
  obtain ⟨W9, hW, z9, hbx, hx⟩ := boxes1 w7 [.slice (some ⟨x1, 0, none⟩) D.words.length D.words.length, .slice (some ⟨x2, 0, none⟩) D.flights.length D.flights.length, .slice (some ⟨x3, 0, none⟩) D.over.length D.over.length] 30
  rw [← hW]
  clear hW
  have A9 := hide ((unhide A7).below (unhide hbx))
  have P9 := hide ((unhide P7).below (unhide hbx))
  have R9 := hide ((unhide R7).below (unhide hbx))
  have X9 := hide ((unhide X8).below (unhide hbx))
  have B9 := hide (below_step (unhide B7) (unhide hbx) (by omega))
  have Q9 := hx
  clear hbx hx A7 P7 R7 X8 B7
  have u9 : w7.heap.size < W9.heap.size := by omega
  generalize w7.heap.size = b9 at *
  refine (implLoadWord_any _ _ _ _ _ _ D n _ (unhide X9).reads k1 k2 k3).mono ?_
  rintro e w10 ⟨rfl, hb⟩
  have z10 : W9.heap.size ≤ w10.heap.size := hb.size
  have A10 := hide ((unhide A9).below hb)
  have P10 := hide ((unhide P9).below hb)
  have R10 := hide ((unhide R9).below hb)
  have X10 := hide ((unhide X9).below hb)
  have Q10 := hide ((unhide Q9).below hb)
  have B10 := hide (below_step (unhide B9) hb (by omega))
  clear hb A9 P9 R9 X9 Q9 B9
  rw [unhide HCD, unhide HVL]
  have cr0 := (unhide R10).cell 0
  have cr1 := (unhide R10).cell 1
  simp at cr0 cr1
  have lcr : b6 < w10.heap.size := by omega
  go_wp2_with fail
  clear cr0 cr1 lcr
  obtain ⟨W11, hW, z11, hbx, hx⟩ := boxes1 w10 [.int .i64 cd, .int .i64 vl] 41
  rw [← hW]
  clear hW
  have A11 := hide ((unhide A10).below (unhide hbx))
  have P11 := hide ((unhide P10).below (unhide hbx))
  have R11 := hide ((unhide R10).below (unhide hbx))
  have X11 := hide ((unhide X10).below (unhide hbx))
  have Q11 := hide ((unhide Q10).below (unhide hbx))
  have B11 := hide (below_step (unhide B10) (unhide hbx) (by omega))
  have S11 := hx
  clear hbx hx A10 P10 R10 X10 Q10 B10
  have u11 : w10.heap.size < W11.heap.size := by omega
  generalize w10.heap.size = b11 at *
  refine (eqIntResult_same cd vl _).mono ?_
  rintro e w12 ⟨rfl, hb⟩
  have z12 : W11.heap.size ≤ w12.heap.size := hb.size
  have A12 := hide ((unhide A11).below hb)
  have P12 := hide ((unhide P11).below hb)
  have R12 := hide ((unhide R11).below hb)
  have X12 := hide ((unhide X11).below hb)
  have Q12 := hide ((unhide Q11).below hb)
  have S12 := hide ((unhide S11).below hb)
  have B12 := hide (below_step (unhide B11) hb (by omega))
  clear hb A11 P11 R11 X11 Q11 S11 B11
  have ca0 := (unhide P12).cell 0
  have ca1 := (unhide P12).cell 1
  have ca2 := (unhide P12).cell 2
  simp at ca0 ca1 ca2
  have lca : w.heap.size < w12.heap.size := by omega
  have cx0 := (unhide Q12).cell 0
  have cx1 := (unhide Q12).cell 1
  have cx2 := (unhide Q12).cell 2
  simp at cx0 cx1 cx2
  have lcx : b9 < w12.heap.size := by omega
  have hD : (fun w' => Below w12.heap.size w12 w' ∧ w'.cell? ⟨w.heap.size, 0, none⟩ = some (.slice a1 D.words.length c1) ∧ w'.cell? ⟨w.heap.size, 1, none⟩ = some (.slice a2 D.flights.length c2) ∧ w'.cell? ⟨w.heap.size, 2, none⟩ = some (.slice a3 D.over.length c3) ∧ w'.cell? ⟨b9, 0, none⟩ = some (.slice (some ⟨x1, 0, none⟩) D.words.length D.words.length) ∧ w'.cell? ⟨b9, 1, none⟩ = some (.slice (some ⟨x2, 0, none⟩) D.flights.length D.flights.length) ∧ w'.cell? ⟨b9, 2, none⟩ = some (.slice (some ⟨x3, 0, none⟩) D.over.length D.over.length)) w12.drew := ⟨(Below.refl _ _).drew, ca0, ca1, ca2, cx0, cx1, cx2⟩
  have HD := hide hD
  clear hD
  go_wp2_with fail
  clear ca0 ca1 ca2 lca cx0 cx1 cx2 lcx
  go_region_held3 (fun w' => Below w12.heap.size w12 w' ∧ w'.cell? ⟨w.heap.size, 0, none⟩ = some (.slice a1 D.words.length c1) ∧ w'.cell? ⟨w.heap.size, 1, none⟩ = some (.slice a2 D.flights.length c2) ∧ w'.cell? ⟨w.heap.size, 2, none⟩ = some (.slice a3 D.over.length c3) ∧ w'.cell? ⟨b9, 0, none⟩ = some (.slice (some ⟨x1, 0, none⟩) D.words.length D.words.length) ∧ w'.cell? ⟨b9, 1, none⟩ = some (.slice (some ⟨x2, 0, none⟩) D.flights.length D.flights.length) ∧ w'.cell? ⟨b9, 2, none⟩ = some (.slice (some ⟨x3, 0, none⟩) D.over.length D.over.length)) (first | exact unhide HD | exact keep6 (by omega) (by omega) (by assumption) (by assumption))
    (first
      | (go_at_call 15; refine (toDevice_any _ _ _ _ _ _ _ _ ((unhide A12).below (sleft (by assumption))) k1 k2 k3).mono ?_; rintro e w5 ⟨⟨h1, h2, h3, rfl, hO⟩, hb5⟩)
      | (go_at_call 17; refine (eqDevice_same _ _ _ _ _ _ _ _ _ _ _ _ D _ ((unhide X12).reads.below (sleft (by assumption))) (OwnDev.reads (D := D) (by assumption)) k1 k2 k3).mono ?_; rintro e w5 ⟨rfl, hb5⟩))
  rename_i hS
  have hbS := hS.1
  clear hS HD hb5
  generalize hwn : w5 = w13 at *
  clear hwn
  have z13 : w12.heap.size ≤ w13.heap.size := hbS.size
  have A13 := hide ((unhide A12).below hbS)
  have P13 := hide ((unhide P12).below hbS)
  have R13 := hide ((unhide R12).below hbS)
  have X13 := hide ((unhide X12).below hbS)
  have Q13 := hide ((unhide Q12).below hbS)
  have S13 := hide ((unhide S12).below hbS)
  have B13 := hide (below_step (unhide B12) hbS (by omega))
  clear hbS A12 P12 R12 X12 Q12 S12 B12
  go_wp2_with fail
  go_ret
  exact ⟨rfl, unhide B13⟩
end Go.Proofs.Ytpngbpohopkkaaa.fnExactLoadWord
