/-
  The walk of laws.FnExactDoActs: it returns true, and writes nothing that was there.
-/
import Derived.Test.YtdijmijipgnlgaaActsWalk
import Derived.Test.YtdijmijipgnlgaaSActsWalk
import Derived.Test.YtdijmijipgnlgaaActSWalk
import Derived.Test.YtdijmijipgnlgaaLawsKit
import Derived.Test.YtdijmijipgnlgaaDevMark
namespace Go.Proofs.Ytdijmijipgnlgaa.fnExactDoActs
open Go.RowKit

theorem szActs_any (a : Option Addr) (n c : Nat) (left : Int) (w : World) (h0 : 0 ≤ left) (h1 : left ≤ 1048576) (hn : n ≤ maxLen) :
    Calls Try.prog 52 #[.slice a n c, .int .i64 left] w fun e w' => (∃ r, e = .returned (.int .i64 r) ∧ Left left n r) ∧ Below w.heap.size w w' :=
  (szActS_any a n c left w h0 h1 hn).mono fun _ _ h => ⟨h.1, by rw [h.2]; exact Below.refl _ _⟩
theorem toActs_any (a : Option Addr) (c : Nat) (l : List Trip) (w : World) (h : TripsAt w a l) (hn : l.length ≤ 1048576) :
    Calls Try.prog 54 #[.slice a l.length c] w fun e w' => (∃ g, e = .returned (.slice (some ⟨g, 0, none⟩) l.length l.length) ∧ w'.ownsRow w.heap.size 138 3 (.slice (some ⟨g, 0, none⟩) l.length l.length) l.length (trs l)) ∧ Below w.heap.size w w' :=
  (toActS_any a c l w h hn).mono fun _ _ ⟨h1, h2, h3⟩ => ⟨⟨_, h1, h2⟩, h3⟩

set_option maxHeartbeats 4000000 in
theorem walk (a1 a2 a3 : Option Addr) (c1 c2 c3 : Nat) (D : Dev) (af : Option Addr) (cf : Nat) (fs : List Trip) (w : World) (h : DevAt w a1 a2 a3 D) (l1 : D.words.length ≤ maxLen) (l2 : D.flights.length ≤ maxLen) (l3 : D.over.length ≤ maxLen) (hI : TripsAt w af fs) (l4 : fs.length ≤ maxLen) :
    Calls Try.prog 8 #[.agg #[.slice a1 D.words.length c1, .slice a2 D.flights.length c2, .slice a3 D.over.length c3], .slice af fs.length cf] w fun e w' => e = .returned (.bool true) ∧ Below w.heap.size w w' := by
  have I0 := hide hI
  have IZ := I0
  clear hI
  have A0 := hide h
  have AZ := A0
  clear h
  go_enter Try.func8, Try.ntmps8
  go_wp2_with fail
  obtain ⟨W1, hW, z1, hbx, hx⟩ := boxes1 w [.slice a1 D.words.length c1, .slice a2 D.flights.length c2, .slice a3 D.over.length c3] 75
  rw [← hW]
  clear hW
  have I1 := hide ((unhide I0).below (unhide hbx))
  have A1 := hide ((unhide A0).below (unhide hbx))
  have B1 := hbx
  have P1 := hx
  clear hbx hx I0 A0
  refine (szDevice_any a1 a2 a3 _ c1 _ c2 _ c3 1048576 _ (by omega) (by omega) l1 l2 l3).mono ?_
  rintro e w2 ⟨⟨r, rfl, hr⟩, hb⟩
  have z2 : W1.heap.size ≤ w2.heap.size := hb.size
  have I2 := hide ((unhide I1).below hb)
  have A2 := hide ((unhide A1).below hb)
  have P2 := hide ((unhide P1).below hb)
  have B2 := hide (below_step (unhide B1) hb (by omega))
  clear hb I1 A1 P1 B1
  by_cases hv : r < 0
  · clear hr
    go_wp2_with fail
    go_ret
    exact ⟨rfl, unhide B2⟩
  have hl : ((D.words.length : Int) + D.flights.length + D.over.length) + r = 1048576 := by rcases hr with h | h <;> omega
  clear hr
  have k1 : D.words.length ≤ 1048576 := by omega
  have k2 : D.flights.length ≤ 1048576 := by omega
  have k3 : D.over.length ≤ 1048576 := by omega
  clear l1 l2 l3
  go_wp2_with fail
  refine (szActs_any af fs.length cf r _ (by omega) (by omega) l4).mono ?_
  rintro e w3 ⟨⟨r2, rfl, hr2⟩, hb⟩
  have z3 : w2.heap.size ≤ w3.heap.size := hb.size
  have I3 := hide ((unhide I2).below hb)
  have A3 := hide ((unhide A2).below hb)
  have P3 := hide ((unhide P2).below hb)
  have B3 := hide (below_step (unhide B2) hb (by omega))
  clear hb I2 A2 P2 B2
  by_cases hv2 : r2 < 0
  · clear hr2
    go_wp2_with fail
    go_ret
    exact ⟨rfl, unhide B3⟩
  have hl2 : ((D.words.length : Int) + D.flights.length + D.over.length + fs.length) ≤ 1048576 := by rcases hr2 with h | h <;> omega
  clear hr2 l4
  have k4 : fs.length ≤ 1048576 := by omega
  have kc : cellsN D ≤ 1050000 := by unfold cellsN; omega
  obtain ⟨m1, m2, m3⟩ := actsDev_len D fs k1 (by unfold cellsN; omega)
  clear hl2
  generalize hDD : chgDev D (actsCode D fs) (actsDev D fs) = DD at *
  have HDD := hide hDD
  clear hDD
  generalize hcd : chgCode D (actsCode D fs) = cd at *
  have HCD := hide hcd
  clear hcd
  have ca0 := (unhide P3).cell 0
  have ca1 := (unhide P3).cell 1
  have ca2 := (unhide P3).cell 2
  simp at ca0 ca1 ca2
  have lca : w.heap.size < w3.heap.size := by omega
  go_wp2_with fail
  clear ca0 ca1 ca2 lca
  refine (toDevice_any _ _ _ _ _ _ D _ (unhide A3) k1 k2 k3).mono ?_
  rintro e w4 ⟨⟨t1, t2, t3, rfl, hO⟩, hb⟩
  have z4 : w3.heap.size ≤ w4.heap.size := hb.size
  have I4 := hide ((unhide I3).below hb)
  have A4 := hide ((unhide A3).below hb)
  have P4 := hide ((unhide P3).below hb)
  have B4 := hide (below_step (unhide B3) hb (by omega))
  clear hb I3 A3 P3 B3
  have T5 := hide hO
  have LT := hide (fun q hq => OwnDev.lt (q := q) hO hq)
  clear hO
  go_wp2_with fail
  refine (toActs_any af cf fs _ (unhide I4) k4).mono ?_
  rintro e w6 ⟨⟨gu, rfl, hO⟩, hb⟩
  have z6 : w4.heap.size ≤ w6.heap.size := hb.size
  have I6 := hide ((unhide I4).below hb)
  have A6 := hide ((unhide A4).below hb)
  have P6 := hide ((unhide P4).below hb)
  have T6 := hide ((unhide T5).below hb)
  have B6 := hide (below_step (unhide B4) hb (by omega))
  clear hb I4 A4 P4 T5 B4
  have U7 := hide hO
  have LU := hide (fun q hq => hO.lt q hq)
  clear hO
  go_wp2_with fail
  refine (specDoActs_any _ _ _ _ _ _ D _ _ fs _ (unhide T6).reads k1 k2 k3 (tripsAt_slice (unhide U7)) k4 kc).mono ?_
  rintro e w8 ⟨⟨as1, cs1, as2, cs2, as3, cs3, rfl, hR⟩, hb⟩
  have z8 : w6.heap.size ≤ w8.heap.size := hb.size
  have I8 := hide ((unhide I6).below hb)
  have A8 := hide ((unhide A6).below hb)
  have P8 := hide ((unhide P6).below hb)
  have T8 := hide ((unhide T6).below hb)
  have U8 := hide (own_below (unhide U7) hb)
  have B8 := hide (below_step (unhide B6) hb (by omega))
  clear hb I6 A6 P6 T6 U7 B6
  rw [unhide HDD] at hR
  rw [unhide HCD, unhide HDD]
  have S9 := hide hR
  clear hR
  have ca0 := (unhide P8).cell 0
  have ca1 := (unhide P8).cell 1
  have ca2 := (unhide P8).cell 2
  simp at ca0 ca1 ca2
  have lca : w.heap.size < w8.heap.size := by omega
  go_wp2_with fail
  clear ca0 ca1 ca2 lca
  obtain ⟨W10, hW, z10, hbx, hx⟩ := boxes1 w8 [.int .i64 cd, .slice as1 DD.words.length cs1, .slice as2 DD.flights.length cs2, .slice as3 DD.over.length cs3] 31
  rw [← hW]
  clear hW
  have I10 := hide ((unhide I8).below (unhide hbx))
  have A10 := hide ((unhide A8).below (unhide hbx))
  have P10 := hide ((unhide P8).below (unhide hbx))
  have S10 := hide ((unhide S9).below (unhide hbx))
  have B10 := hide (below_step (unhide B8) (unhide hbx) (by omega))
  have R10 := hx
  clear hbx hx I8 A8 P8 S9 B8
  have u10 : w8.heap.size < W10.heap.size := by omega
  generalize w8.heap.size = b10 at *
  refine (toDevice_any _ _ _ _ _ _ D _ (unhide A10) k1 k2 k3).mono ?_
  rintro e w11 ⟨⟨x1, x2, x3, rfl, hO⟩, hb⟩
  have z11 : W10.heap.size ≤ w11.heap.size := hb.size
  have I11 := hide ((unhide I10).below hb)
  have A11 := hide ((unhide A10).below hb)
  have P11 := hide ((unhide P10).below hb)
  have S11 := hide ((unhide S10).below hb)
  have R11 := hide ((unhide R10).below hb)
  have B11 := hide (below_step (unhide B10) hb (by omega))
  clear hb I10 A10 P10 S10 R10 B10
  have X12 := hide hO
  have LX := hide (fun q hq => OwnDev.lt (q := q) hO hq)
  clear hO
  go_wp2_with fail
  obtain ⟨W13, hW, z13, hbx, hx⟩ := boxes1 w11 [.slice (some ⟨x1, 0, none⟩) D.words.length D.words.length, .slice (some ⟨x2, 0, none⟩) D.flights.length D.flights.length, .slice (some ⟨x3, 0, none⟩) D.over.length D.over.length] 27
  rw [← hW]
  clear hW
  have I13 := hide ((unhide I11).below (unhide hbx))
  have A13 := hide ((unhide A11).below (unhide hbx))
  have P13 := hide ((unhide P11).below (unhide hbx))
  have S13 := hide ((unhide S11).below (unhide hbx))
  have R13 := hide ((unhide R11).below (unhide hbx))
  have X13 := hide ((unhide X12).below (unhide hbx))
  have B13 := hide (below_step (unhide B11) (unhide hbx) (by omega))
  have Q13 := hx
  clear hbx hx I11 A11 P11 S11 R11 X12 B11
  have u13 : w11.heap.size < W13.heap.size := by omega
  generalize w11.heap.size = b13 at *
  refine (toActs_any af cf fs _ (unhide I13) k4).mono ?_
  rintro e w14 ⟨⟨gy, rfl, hO⟩, hb⟩
  have z14 : W13.heap.size ≤ w14.heap.size := hb.size
  have I14 := hide ((unhide I13).below hb)
  have A14 := hide ((unhide A13).below hb)
  have P14 := hide ((unhide P13).below hb)
  have S14 := hide ((unhide S13).below hb)
  have R14 := hide ((unhide R13).below hb)
  have X14 := hide ((unhide X13).below hb)
  have Q14 := hide ((unhide Q13).below hb)
  have B14 := hide (below_step (unhide B13) hb (by omega))
  clear hb I13 A13 P13 S13 R13 X13 Q13 B13
  have Y15 := hide hO
  have LY := hide (fun q hq => hO.lt q hq)
  clear hO
  have cx0 := (unhide Q14).cell 0
  have cx1 := (unhide Q14).cell 1
  have cx2 := (unhide Q14).cell 2
  simp at cx0 cx1 cx2
  have lcx : b13 < w14.heap.size := by omega
  go_wp2_with fail
  clear cx0 cx1 cx2 lcx
  refine (implDoActs_any _ _ _ _ _ _ D _ _ fs _ (unhide X14).reads (tripsAt_slice (unhide Y15)) k1 k2 k3 k4 kc ).mono ?_
  rintro e w16 ⟨⟨s1, s2, s3, rfl, hO⟩, hb⟩
  have z16 : w14.heap.size ≤ w16.heap.size := hb.size
  have I16 := hide ((unhide I14).below hb)
  have A16 := hide ((unhide A14).below hb)
  have P16 := hide ((unhide P14).below hb)
  have S16 := hide ((unhide S14).below hb)
  have R16 := hide ((unhide R14).below hb)
  have X16 := hide ((unhide X14).below hb)
  have Q16 := hide ((unhide Q14).below hb)
  have Y16 := hide (own_below (unhide Y15) hb)
  have B16 := hide (below_step (unhide B14) hb (by omega))
  clear hb I14 A14 P14 S14 R14 X14 Q14 Y15 B14
  rw [unhide HDD] at hO
  obtain ⟨ag1, cg1, ag2, cg2, ag3, cg3, e1, e2, e3, -⟩ := hO.form
  subst e1 e2 e3
  rw [unhide HCD]
  have G17 := hide hO
  have LG := hide (fun q hq => OwnDev.lt (q := q) hO hq)
  clear hO
  have cr0 := (unhide R16).cell 0
  have cr1 := (unhide R16).cell 1
  have cr2 := (unhide R16).cell 2
  have cr3 := (unhide R16).cell 3
  simp at cr0 cr1 cr2 cr3
  have lcr : b10 < w16.heap.size := by omega
  go_wp2_with fail
  clear cr0 cr1 cr2 cr3 lcr
  obtain ⟨W18, hW, z18, hbx, hx⟩ := boxes1 w16 [.int .i64 cd, .slice ag1 DD.words.length cg1, .slice ag2 DD.flights.length cg2, .slice ag3 DD.over.length cg3] 31
  rw [← hW]
  clear hW
  have I18 := hide ((unhide I16).below (unhide hbx))
  have A18 := hide ((unhide A16).below (unhide hbx))
  have P18 := hide ((unhide P16).below (unhide hbx))
  have S18 := hide ((unhide S16).below (unhide hbx))
  have R18 := hide ((unhide R16).below (unhide hbx))
  have X18 := hide ((unhide X16).below (unhide hbx))
  have Q18 := hide ((unhide Q16).below (unhide hbx))
  have Y18 := hide (own_below (unhide Y16) (unhide hbx))
  have G18 := hide ((unhide G17).below (unhide hbx))
  have B18 := hide (below_step (unhide B16) (unhide hbx) (by omega))
  have V18 := hx
  clear hbx hx I16 A16 P16 S16 R16 X16 Q16 Y16 G17 B16
  have u18 : w16.heap.size < W18.heap.size := by omega
  generalize w16.heap.size = b18 at *
  refine (eqDeviceResult_same cd _ _ _ _ _ _ _ _ _ _ _ _ DD _ (unhide G18).reads (unhide S18).r m1 m2 m3).mono ?_
  rintro e w19 ⟨rfl, hb⟩
  have z19 : W18.heap.size ≤ w19.heap.size := hb.size
  have I19 := hide ((unhide I18).below hb)
  have A19 := hide ((unhide A18).below hb)
  have P19 := hide ((unhide P18).below hb)
  have S19 := hide ((unhide S18).below hb)
  have R19 := hide ((unhide R18).below hb)
  have X19 := hide ((unhide X18).below hb)
  have Q19 := hide ((unhide Q18).below hb)
  have Y19 := hide (own_below (unhide Y18) hb)
  have G19 := hide ((unhide G18).below hb)
  have V19 := hide ((unhide V18).below hb)
  have B19 := hide (below_step (unhide B18) hb (by omega))
  clear hb I18 A18 P18 S18 R18 X18 Q18 Y18 G18 V18 B18
  have ca0 := (unhide P19).cell 0
  have ca1 := (unhide P19).cell 1
  have ca2 := (unhide P19).cell 2
  simp at ca0 ca1 ca2
  have lca : w.heap.size < w19.heap.size := by omega
  have cx0 := (unhide Q19).cell 0
  have cx1 := (unhide Q19).cell 1
  have cx2 := (unhide Q19).cell 2
  simp at cx0 cx1 cx2
  have lcx : b13 < w19.heap.size := by omega
  have hD : (fun w' => Below w19.heap.size w19 w' ∧ w'.cell? ⟨w.heap.size, 0, none⟩ = some (.slice a1 D.words.length c1) ∧ w'.cell? ⟨w.heap.size, 1, none⟩ = some (.slice a2 D.flights.length c2) ∧ w'.cell? ⟨w.heap.size, 2, none⟩ = some (.slice a3 D.over.length c3) ∧ w'.cell? ⟨b13, 0, none⟩ = some (.slice (some ⟨x1, 0, none⟩) D.words.length D.words.length) ∧ w'.cell? ⟨b13, 1, none⟩ = some (.slice (some ⟨x2, 0, none⟩) D.flights.length D.flights.length) ∧ w'.cell? ⟨b13, 2, none⟩ = some (.slice (some ⟨x3, 0, none⟩) D.over.length D.over.length)) w19.drew := ⟨(Below.refl _ _).drew, ca0, ca1, ca2, cx0, cx1, cx2⟩
  have HD := hide hD
  clear hD
  go_wp2_with fail
  clear ca0 ca1 ca2 lca cx0 cx1 cx2 lcx
  go_region_held3 (fun w' => Below w19.heap.size w19 w' ∧ w'.cell? ⟨w.heap.size, 0, none⟩ = some (.slice a1 D.words.length c1) ∧ w'.cell? ⟨w.heap.size, 1, none⟩ = some (.slice a2 D.flights.length c2) ∧ w'.cell? ⟨w.heap.size, 2, none⟩ = some (.slice a3 D.over.length c3) ∧ w'.cell? ⟨b13, 0, none⟩ = some (.slice (some ⟨x1, 0, none⟩) D.words.length D.words.length) ∧ w'.cell? ⟨b13, 1, none⟩ = some (.slice (some ⟨x2, 0, none⟩) D.flights.length D.flights.length) ∧ w'.cell? ⟨b13, 2, none⟩ = some (.slice (some ⟨x3, 0, none⟩) D.over.length D.over.length)) (first | exact unhide HD | exact keep6 (by omega) (by omega) (by assumption) (by assumption))
    (first
      | (go_at_call 53; refine (toDevice_any _ _ _ _ _ _ _ _ ((unhide A19).below (sleft (by assumption))) k1 k2 k3).mono ?_; rintro e w5 ⟨⟨h1, h2, h3, rfl, hO⟩, hb5⟩)
      | (go_at_call 56; refine (eqDevice_same _ _ _ _ _ _ _ _ _ _ _ _ D _ ((unhide X19).reads.below (sleft (by assumption))) (OwnDev.reads (D := D) (by assumption)) k1 k2 k3).mono ?_; rintro e w5 ⟨rfl, hb5⟩))
  rename_i hS
  have hbS := hS.1
  clear hS HD hb5
  generalize hwn : w5 = w20 at *
  clear hwn
  have z20 : w19.heap.size ≤ w20.heap.size := hbS.size
  have I20 := hide ((unhide I19).below hbS)
  have A20 := hide ((unhide A19).below hbS)
  have P20 := hide ((unhide P19).below hbS)
  have S20 := hide ((unhide S19).below hbS)
  have R20 := hide ((unhide R19).below hbS)
  have X20 := hide ((unhide X19).below hbS)
  have Q20 := hide ((unhide Q19).below hbS)
  have Y20 := hide (own_below (unhide Y19) hbS)
  have G20 := hide ((unhide G19).below hbS)
  have V20 := hide ((unhide V19).below hbS)
  have B20 := hide (below_step (unhide B19) hbS (by omega))
  clear hbS I19 A19 P19 S19 R19 X19 Q19 Y19 G19 V19 B19
  go_wp2_with fail
  refine (toActs_any af cf fs _ (unhide I20) k4).mono ?_
  rintro e w21 ⟨⟨gv, rfl, hO⟩, hb⟩
  have z21 : w20.heap.size ≤ w21.heap.size := hb.size
  have I21 := hide ((unhide I20).below hb)
  have A21 := hide ((unhide A20).below hb)
  have P21 := hide ((unhide P20).below hb)
  have S21 := hide ((unhide S20).below hb)
  have R21 := hide ((unhide R20).below hb)
  have X21 := hide ((unhide X20).below hb)
  have Q21 := hide ((unhide Q20).below hb)
  have Y21 := hide (own_below (unhide Y20) hb)
  have G21 := hide ((unhide G20).below hb)
  have V21 := hide ((unhide V20).below hb)
  have B21 := hide (below_step (unhide B20) hb (by omega))
  clear hb I20 A20 P20 S20 R20 X20 Q20 Y20 G20 V20 B20
  have U222 := hide hO
  have LU2 := hide (fun q hq => hO.lt q hq)
  clear hO
  go_wp2_with fail
  refine (eqActS_same _ _ _ _ fs _ (tripsAt_slice (unhide Y21)) (tripsAt_slice (unhide U222)) k4).mono ?_
  rintro e w23 ⟨rfl, hb⟩
  have z23 : w21.heap.size ≤ w23.heap.size := hb.size
  have I23 := hide ((unhide I21).below hb)
  have A23 := hide ((unhide A21).below hb)
  have P23 := hide ((unhide P21).below hb)
  have S23 := hide ((unhide S21).below hb)
  have R23 := hide ((unhide R21).below hb)
  have X23 := hide ((unhide X21).below hb)
  have Q23 := hide ((unhide Q21).below hb)
  have Y23 := hide (own_below (unhide Y21) hb)
  have G23 := hide ((unhide G21).below hb)
  have V23 := hide ((unhide V21).below hb)
  have U223 := hide (own_below (unhide U222) hb)
  have B23 := hide (below_step (unhide B21) hb (by omega))
  clear hb I21 A21 P21 S21 R21 X21 Q21 Y21 G21 V21 U222 B21
  have cx0 := (unhide Q23).cell 0
  have cx1 := (unhide Q23).cell 1
  have cx2 := (unhide Q23).cell 2
  simp at cx0 cx1 cx2
  have lcx : b13 < w23.heap.size := by omega
  go_wp2_with fail
  clear cx0 cx1 cx2 lcx
  refine (markDevice_any _ _ _ _ D 1 _ (unhide X23) k1 k2 k3 (by omega) (by omega)).mono ?_
  rintro e w24 ⟨rfl, hO, ho⟩
  have z24 : w23.heap.size ≤ w24.heap.size := ho.size
  have P24 := hide ((unhide P23).out ho (fun h => by have h2 := unhide LX _ h; omega))
  have S24 := hide ((unhide S23).out ho (fun q h1 h2 h => by have h2 := unhide LX _ h; omega))
  have R24 := hide ((unhide R23).out ho (fun h => by have h2 := unhide LX _ h; omega))
  have Q24 := hide ((unhide Q23).out ho (fun h => by have h2 := unhide LX _ h; omega))
  have Y24 := hide (ho.own (unhide Y23) (fun q hq h => by have h2 := unhide LX _ h; have h1 := unhide LY _ hq; omega))
  have G24 := hide ((unhide G23).out ho (fun q hq h => by have h2 := unhide LX _ h; have h1 := unhide LG _ hq; omega))
  have V24 := hide ((unhide V23).out ho (fun h => by have h2 := unhide LX _ h; omega))
  have B24 := hide (ho.below (unhide B23) (Nat.le_refl _) (fun q hq h => by have h2 := unhide LX _ h; omega))
  have I24 := hide ((unhide IZ).below (unhide B24))
  have A24 := hide ((unhide AZ).below (unhide B24))
  have X24 := hide hO
  clear ho hO P23 S23 R23 Q23 Y23 G23 V23 B23 I23 A23 X23
  have km : 1 ≤ markedTo D 1 ∧ markedTo D 1 ≤ 10000000 := by unfold markedTo; omega
  go_wp2_with fail
  refine (markActS_any _ fs.length _ _ (markedTo D 1) _ (unhide Y24) k4 km.1 km.2).mono ?_
  rintro e w25 ⟨rfl, hO, ho⟩
  have z25 : w24.heap.size ≤ w25.heap.size := ho.size
  have P25 := hide ((unhide P24).out ho (fun h => by have h2 := unhide LY _ h; omega))
  have S25 := hide ((unhide S24).out ho (fun q h1 h2 h => by have h2 := unhide LY _ h; omega))
  have R25 := hide ((unhide R24).out ho (fun h => by have h2 := unhide LY _ h; omega))
  have X25 := hide ((unhide X24).out ho (fun q hq h => by have h2 := unhide LY _ h; have h1 := unhide LX _ hq; omega))
  have Q25 := hide ((unhide Q24).out ho (fun h => by have h2 := unhide LY _ h; omega))
  have G25 := hide ((unhide G24).out ho (fun q hq h => by have h2 := unhide LY _ h; have h1 := unhide LG _ hq; omega))
  have V25 := hide ((unhide V24).out ho (fun h => by have h2 := unhide LY _ h; omega))
  have B25 := hide (ho.below (unhide B24) (Nat.le_refl _) (fun q hq h => by have h2 := unhide LY _ h; omega))
  have I25 := hide ((unhide IZ).below (unhide B25))
  have A25 := hide ((unhide AZ).below (unhide B25))
  have Y25 := hide hO
  clear ho hO P24 S24 R24 X24 Q24 G24 V24 B24 I24 A24 Y24
  have cv0 := (unhide V25).cell 0
  have cv1 := (unhide V25).cell 1
  have cv2 := (unhide V25).cell 2
  have cv3 := (unhide V25).cell 3
  simp at cv0 cv1 cv2 cv3
  have lcv : b18 < w25.heap.size := by omega
  have cr0 := (unhide R25).cell 0
  have cr1 := (unhide R25).cell 1
  have cr2 := (unhide R25).cell 2
  have cr3 := (unhide R25).cell 3
  simp at cr0 cr1 cr2 cr3
  have lcr : b10 < w25.heap.size := by omega
  have kd : ¬ markedTo D 1 + 3 * fs.length < 0 := by omega
  go_wp2_with fail
  clear cv0 cv1 cv2 cv3 lcv cr0 cr1 cr2 cr3 lcr
  refine (eqDeviceResult_same cd _ _ _ _ _ _ _ _ _ _ _ _ DD _ (unhide G25).reads (unhide S25).r m1 m2 m3).mono ?_
  rintro e w26 ⟨rfl, hb⟩
  have z26 : w25.heap.size ≤ w26.heap.size := hb.size
  have I26 := hide ((unhide I25).below hb)
  have A26 := hide ((unhide A25).below hb)
  have P26 := hide ((unhide P25).below hb)
  have S26 := hide ((unhide S25).below hb)
  have R26 := hide ((unhide R25).below hb)
  have X26 := hide ((unhide X25).below hb)
  have Q26 := hide ((unhide Q25).below hb)
  have G26 := hide ((unhide G25).below hb)
  have V26 := hide ((unhide V25).below hb)
  have B26 := hide (below_step (unhide B25) hb (by omega))
  clear hb I25 A25 P25 S25 R25 X25 Q25 G25 V25 B25
  have cv0 := (unhide V26).cell 0
  have cv1 := (unhide V26).cell 1
  have cv2 := (unhide V26).cell 2
  have cv3 := (unhide V26).cell 3
  simp at cv0 cv1 cv2 cv3
  have lcv : b18 < w26.heap.size := by omega
  go_wp2_with fail
  clear cv0 cv1 cv2 cv3 lcv
  refine (markDeviceResult_any cd _ _ _ _ DD 1 _ (unhide G26) m1 m2 m3 (by omega) (by omega)).mono ?_
  rintro e w27 ⟨rfl, hO, ho⟩
  have z27 : w26.heap.size ≤ w27.heap.size := ho.size
  have P27 := hide ((unhide P26).out ho (fun h => by have h2 := unhide LG _ h; omega))
  have S27 := hide ((unhide S26).out ho (fun q h1 h2 h => by have h2 := unhide LG _ h; omega))
  have R27 := hide ((unhide R26).out ho (fun h => by have h2 := unhide LG _ h; omega))
  have X27 := hide ((unhide X26).out ho (fun q hq h => by have h2 := unhide LG _ h; have h1 := unhide LX _ hq; omega))
  have Q27 := hide ((unhide Q26).out ho (fun h => by have h2 := unhide LG _ h; omega))
  have V27 := hide ((unhide V26).out ho (fun h => by have h2 := unhide LG _ h; omega))
  have B27 := hide (ho.below (unhide B26) (Nat.le_refl _) (fun q hq h => by have h2 := unhide LG _ h; omega))
  have I27 := hide ((unhide IZ).below (unhide B27))
  have A27 := hide ((unhide AZ).below (unhide B27))
  have G27 := hide hO
  clear ho hO P26 S26 R26 X26 Q26 V26 B26 I26 A26 G26
  have cv0 := (unhide V27).cell 0
  have cv1 := (unhide V27).cell 1
  have cv2 := (unhide V27).cell 2
  have cv3 := (unhide V27).cell 3
  simp at cv0 cv1 cv2 cv3
  have lcv : b18 < w27.heap.size := by omega
  have kk : ¬ markedTo DD 1 < 0 := by unfold markedTo; omega
  have kn := int_neq_self (markedTo DD 1)
  go_wp2_with fail
  clear cv0 cv1 cv2 cv3 lcv
  refine (heldDeviceResult_any cd _ _ _ _ _ _ DD 1 _ (unhide G27).reads m1 m2 m3 (by omega) (by omega)).mono ?_
  rintro e w28 ⟨rfl, hb⟩
  have z28 : w27.heap.size ≤ w28.heap.size := hb.size
  have I28 := hide ((unhide I27).below hb)
  have A28 := hide ((unhide A27).below hb)
  have P28 := hide ((unhide P27).below hb)
  have S28 := hide ((unhide S27).below hb)
  have R28 := hide ((unhide R27).below hb)
  have X28 := hide ((unhide X27).below hb)
  have Q28 := hide ((unhide Q27).below hb)
  have G28 := hide ((unhide G27).below hb)
  have V28 := hide ((unhide V27).below hb)
  have B28 := hide (below_step (unhide B27) hb (by omega))
  clear hb I27 A27 P27 S27 R27 X27 Q27 G27 V27 B27
  have ca0 := (unhide P28).cell 0
  have ca1 := (unhide P28).cell 1
  have ca2 := (unhide P28).cell 2
  simp at ca0 ca1 ca2
  have lca : w.heap.size < w28.heap.size := by omega
  go_wp2_with fail
  clear ca0 ca1 ca2 lca
  refine (toDevice_any _ _ _ _ _ _ D _ (unhide A28) k1 k2 k3).mono ?_
  rintro e w29 ⟨⟨y1, y2, y3, rfl, hO⟩, hb⟩
  have z29 : w28.heap.size ≤ w29.heap.size := hb.size
  have I29 := hide ((unhide I28).below hb)
  have A29 := hide ((unhide A28).below hb)
  have P29 := hide ((unhide P28).below hb)
  have S29 := hide ((unhide S28).below hb)
  have R29 := hide ((unhide R28).below hb)
  have X29 := hide ((unhide X28).below hb)
  have Q29 := hide ((unhide Q28).below hb)
  have G29 := hide ((unhide G28).below hb)
  have V29 := hide ((unhide V28).below hb)
  have B29 := hide (below_step (unhide B28) hb (by omega))
  clear hb I28 A28 P28 S28 R28 X28 Q28 G28 V28 B28
  have T230 := hide hO
  have LT2 := hide (fun q hq => OwnDev.lt (q := q) hO hq)
  clear hO
  go_wp2_with fail
  refine (toActs_any af cf fs _ (unhide I29) k4).mono ?_
  rintro e w31 ⟨⟨gz, rfl, hO⟩, hb⟩
  have z31 : w29.heap.size ≤ w31.heap.size := hb.size
  have I31 := hide ((unhide I29).below hb)
  have A31 := hide ((unhide A29).below hb)
  have P31 := hide ((unhide P29).below hb)
  have S31 := hide ((unhide S29).below hb)
  have R31 := hide ((unhide R29).below hb)
  have X31 := hide ((unhide X29).below hb)
  have Q31 := hide ((unhide Q29).below hb)
  have G31 := hide ((unhide G29).below hb)
  have V31 := hide ((unhide V29).below hb)
  have T231 := hide ((unhide T230).below hb)
  have B31 := hide (below_step (unhide B29) hb (by omega))
  clear hb I29 A29 P29 S29 R29 X29 Q29 G29 V29 T230 B29
  have U332 := hide hO
  have LU3 := hide (fun q hq => hO.lt q hq)
  clear hO
  go_wp2_with fail
  refine (implDoActs_any _ _ _ _ _ _ D _ _ fs _ (unhide T231).reads (tripsAt_slice (unhide U332)) k1 k2 k3 k4 kc).mono ?_
  rintro e w33 ⟨⟨s1, s2, s3, rfl, hO⟩, hb⟩
  have z33 : w31.heap.size ≤ w33.heap.size := hb.size
  have I33 := hide ((unhide I31).below hb)
  have A33 := hide ((unhide A31).below hb)
  have P33 := hide ((unhide P31).below hb)
  have S33 := hide ((unhide S31).below hb)
  have R33 := hide ((unhide R31).below hb)
  have X33 := hide ((unhide X31).below hb)
  have Q33 := hide ((unhide Q31).below hb)
  have G33 := hide ((unhide G31).below hb)
  have V33 := hide ((unhide V31).below hb)
  have T233 := hide ((unhide T231).below hb)
  have U333 := hide (own_below (unhide U332) hb)
  have B33 := hide (below_step (unhide B31) hb (by omega))
  clear hb I31 A31 P31 S31 R31 X31 Q31 G31 V31 T231 U332 B31
  rw [unhide HDD] at hO
  obtain ⟨ah1, ch1, ah2, ch2, ah3, ch3, e1, e2, e3, -⟩ := hO.form
  subst e1 e2 e3
  rw [unhide HCD]
  have H34 := hide hO
  have LH := hide (fun q hq => OwnDev.lt (q := q) hO hq)
  clear hO
  have cr0 := (unhide R33).cell 0
  have cr1 := (unhide R33).cell 1
  have cr2 := (unhide R33).cell 2
  have cr3 := (unhide R33).cell 3
  simp at cr0 cr1 cr2 cr3
  have lcr : b10 < w33.heap.size := by omega
  go_wp2_with fail
  clear cr0 cr1 cr2 cr3 lcr
  obtain ⟨W35, hW, z35, hbx, hx⟩ := boxes1 w33 [.int .i64 cd, .slice ah1 DD.words.length ch1, .slice ah2 DD.flights.length ch2, .slice ah3 DD.over.length ch3] 31
  rw [← hW]
  clear hW
  have I35 := hide ((unhide I33).below (unhide hbx))
  have A35 := hide ((unhide A33).below (unhide hbx))
  have P35 := hide ((unhide P33).below (unhide hbx))
  have S35 := hide ((unhide S33).below (unhide hbx))
  have R35 := hide ((unhide R33).below (unhide hbx))
  have X35 := hide ((unhide X33).below (unhide hbx))
  have Q35 := hide ((unhide Q33).below (unhide hbx))
  have G35 := hide ((unhide G33).below (unhide hbx))
  have V35 := hide ((unhide V33).below (unhide hbx))
  have T235 := hide ((unhide T233).below (unhide hbx))
  have U335 := hide (own_below (unhide U333) (unhide hbx))
  have H35 := hide ((unhide H34).below (unhide hbx))
  have B35 := hide (below_step (unhide B33) (unhide hbx) (by omega))
  have Z35 := hx
  clear hbx hx I33 A33 P33 S33 R33 X33 Q33 G33 V33 T233 U333 H34 B33
  have u35 : w33.heap.size < W35.heap.size := by omega
  generalize w33.heap.size = b35 at *
  refine (eqDeviceResult_same cd _ _ _ _ _ _ _ _ _ _ _ _ DD _ (unhide H35).reads (unhide S35).r m1 m2 m3).mono ?_
  rintro e w36 ⟨rfl, hb⟩
  have z36 : W35.heap.size ≤ w36.heap.size := hb.size
  have I36 := hide ((unhide I35).below hb)
  have A36 := hide ((unhide A35).below hb)
  have P36 := hide ((unhide P35).below hb)
  have S36 := hide ((unhide S35).below hb)
  have R36 := hide ((unhide R35).below hb)
  have X36 := hide ((unhide X35).below hb)
  have Q36 := hide ((unhide Q35).below hb)
  have G36 := hide ((unhide G35).below hb)
  have V36 := hide ((unhide V35).below hb)
  have T236 := hide ((unhide T235).below hb)
  have U336 := hide (own_below (unhide U335) hb)
  have H36 := hide ((unhide H35).below hb)
  have Z36 := hide ((unhide Z35).below hb)
  have B36 := hide (below_step (unhide B35) hb (by omega))
  clear hb I35 A35 P35 S35 R35 X35 Q35 G35 V35 T235 U335 H35 Z35 B35
  have cv0 := (unhide V36).cell 0
  have cv1 := (unhide V36).cell 1
  have cv2 := (unhide V36).cell 2
  have cv3 := (unhide V36).cell 3
  simp at cv0 cv1 cv2 cv3
  have lcv : b18 < w36.heap.size := by omega
  go_wp2_with fail
  clear cv0 cv1 cv2 cv3 lcv
  refine (heldDeviceResult_any cd _ _ _ _ _ _ DD 1 _ (unhide G36).reads m1 m2 m3 (by omega) (by omega)).mono ?_
  rintro e w37 ⟨rfl, hb⟩
  have z37 : w36.heap.size ≤ w37.heap.size := hb.size
  have I37 := hide ((unhide I36).below hb)
  have A37 := hide ((unhide A36).below hb)
  have P37 := hide ((unhide P36).below hb)
  have S37 := hide ((unhide S36).below hb)
  have R37 := hide ((unhide R36).below hb)
  have X37 := hide ((unhide X36).below hb)
  have Q37 := hide ((unhide Q36).below hb)
  have G37 := hide ((unhide G36).below hb)
  have V37 := hide ((unhide V36).below hb)
  have T237 := hide ((unhide T236).below hb)
  have U337 := hide (own_below (unhide U336) hb)
  have H37 := hide ((unhide H36).below hb)
  have Z37 := hide ((unhide Z36).below hb)
  have B37 := hide (below_step (unhide B36) hb (by omega))
  clear hb I36 A36 P36 S36 R36 X36 Q36 G36 V36 T236 U336 H36 Z36 B36
  go_wp2_with fail
  go_ret
  exact ⟨rfl, unhide B37⟩
end Go.Proofs.Ytdijmijipgnlgaa.fnExactDoActs
