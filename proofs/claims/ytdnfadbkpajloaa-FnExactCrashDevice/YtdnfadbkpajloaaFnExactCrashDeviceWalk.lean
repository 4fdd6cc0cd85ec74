/-
  The walk of laws.FnExactCrashDevice: it returns true, and writes nothing that was there.
-/
import Derived.Test.YtdnfadbkpajloaaSCrashWalk
import Derived.Test.YtdnfadbkpajloaaLawsKit
import Derived.Test.YtdnfadbkpajloaaDevMark
namespace Go.Proofs.Ytdnfadbkpajloaa.fnExactCrashDevice
open Go.RowKit

theorem toInts_any (a : Option Addr) (c : Nat) (l : List Int) (w : World) (h : IntsAt w a l) (hn : l.length ≤ 1048576) :
    Calls Try.prog 38 #[.slice a l.length c] w fun e w' => (∃ g, e = .returned (.slice (some ⟨g, 0, none⟩) l.length l.length) ∧ w'.ownsRow w.heap.size 2 1 (.slice (some ⟨g, 0, none⟩) l.length l.length) l.length (nums l)) ∧ Below w.heap.size w w' :=
  (toInt64S_any a c l w h hn).mono fun _ _ ⟨h1, h2, h3⟩ => ⟨⟨_, h1, h2⟩, h3⟩
theorem intsAt_slice {w : World} {base n c : Nat} {a : Option Addr} {l : List Int} (h : w.ownsRow base 2 1 (.slice a n c) n (nums l)) : IntsAt w a l := by
  obtain ⟨a0, c0, e, -, hp, -⟩ := intsAt_own h
  injection e with e
  subst e
  exact hp

set_option maxHeartbeats 4000000 in
theorem walk (a1 a2 a3 : Option Addr) (c1 c2 c3 : Nat) (D : Dev) (af : Option Addr) (cf : Nat) (fs : List Int) (w : World) (h : DevAt w a1 a2 a3 D) (l1 : D.words.length ≤ maxLen) (l2 : D.flights.length ≤ maxLen) (l3 : D.over.length ≤ maxLen) (hI : IntsAt w af fs) (_l4 : fs.length ≤ maxLen) :
    Calls Try.prog 6 #[.agg #[.slice a1 D.words.length c1, .slice a2 D.flights.length c2, .slice a3 D.over.length c3], .slice af fs.length cf] w fun e w' => e = .returned (.bool true) ∧ Below w.heap.size w w' := by
  have I0 := hide hI
  have IZ := I0
  clear hI
  by_cases hfs : 1048576 < fs.length
  · have hfi : (1048576 : Int) < fs.length := by omega
    go_enter Try.func6, Try.ntmps6
    go_wp2_with fail
    go_ret
    exact ⟨rfl, (Below.refl _ w).alloc (Nat.le_refl _) _⟩
  have k4 : fs.length ≤ 1048576 := by omega
  have k5 : ¬ (1048576 : Int) < fs.length := by omega
  clear hfs _l4
  have A0 := hide h
  have AZ := A0
  clear h
  go_enter Try.func6, Try.ntmps6
  go_wp2_with fail
  obtain ⟨W1, hW, z1, hbx, hx⟩ := boxes1 w [.slice a1 D.words.length c1, .slice a2 D.flights.length c2, .slice a3 D.over.length c3] 70
  rw [← hW]
  clear hW
  have I1 := hide ((unhide I0).below (unhide hbx))
  have A1 := hide ((unhide A0).below (unhide hbx))
  have B1 := hbx
  have P1 := hx
  clear hbx hx I0 A0
  refine (szDevice_any a1 a2 a3 _ c1 _ c2 _ c3 1048576 _ (by omega) (by omega) l1 l2 l3).mono ?_
  rintro e w2 ⟨⟨r, rfl, hr⟩, hb⟩
  have z2 : W1.heap.size ≤ w2.heap.size := hb.size
  have I2 := hide ((unhide I1).below hb)
  have A2 := hide ((unhide A1).below hb)
  have P2 := hide ((unhide P1).below hb)
  have B2 := hide (below_step (unhide B1) hb (by omega))
  clear hb I1 A1 P1 B1
  by_cases hv : r < 0
  · clear hr
    go_wp2_with fail
    go_ret
    exact ⟨rfl, unhide B2⟩
  have hl : ((D.words.length : Int) + D.flights.length + D.over.length) ≤ 1048576 := by rcases hr with h | h <;> omega
  clear hr
  have k1 : D.words.length ≤ 1048576 := by omega
  have k2 : D.flights.length ≤ 1048576 := by omega
  have k3 : D.over.length ≤ 1048576 := by omega
  clear l1 l2 l3
  obtain ⟨m1, m2, m3⟩ := crashDev_len D fs k1
  clear hl
  generalize hDD : chgDev D (crashCode D fs) (crashDev D fs) = DD at *
  have HDD := hide hDD
  clear hDD
  generalize hcd : chgCode D (crashCode D fs) = cd at *
  have HCD := hide hcd
  clear hcd
  have ca0 := (unhide P2).cell 0
  have ca1 := (unhide P2).cell 1
  have ca2 := (unhide P2).cell 2
  simp at ca0 ca1 ca2
  have lca : w.heap.size < w2.heap.size := by omega
  go_wp2_with fail
  clear ca0 ca1 ca2 lca
  refine (toDevice_any _ _ _ _ _ _ D _ (unhide A2) k1 k2 k3).mono ?_
  rintro e w3 ⟨⟨t1, t2, t3, rfl, hO⟩, hb⟩
  have z3 : w2.heap.size ≤ w3.heap.size := hb.size
  have I3 := hide ((unhide I2).below hb)
  have A3 := hide ((unhide A2).below hb)
  have P3 := hide ((unhide P2).below hb)
  have B3 := hide (below_step (unhide B2) hb (by omega))
  clear hb I2 A2 P2 B2
  have T4 := hide hO
  have LT := hide (fun q hq => OwnDev.lt (q := q) hO hq)
  clear hO
  go_wp2_with fail
  refine (toInts_any af cf fs _ (unhide I3) k4).mono ?_
  rintro e w5 ⟨⟨gu, rfl, hO⟩, hb⟩
  have z5 : w3.heap.size ≤ w5.heap.size := hb.size
  have I5 := hide ((unhide I3).below hb)
  have A5 := hide ((unhide A3).below hb)
  have P5 := hide ((unhide P3).below hb)
  have T5 := hide ((unhide T4).below hb)
  have B5 := hide (below_step (unhide B3) hb (by omega))
  clear hb I3 A3 P3 T4 B3
  have U6 := hide hO
  have LU := hide (fun q hq => hO.lt q hq)
  clear hO
  go_wp2_with fail
  refine (specCrashDevice_any _ _ _ _ _ _ D _ _ fs _ (unhide T5).reads k1 k2 k3 (intsAt_slice (unhide U6)) k4).mono ?_
  rintro e w7 ⟨⟨as1, cs1, as2, cs2, as3, cs3, rfl, hR⟩, hb⟩
  have z7 : w5.heap.size ≤ w7.heap.size := hb.size
  have I7 := hide ((unhide I5).below hb)
  have A7 := hide ((unhide A5).below hb)
  have P7 := hide ((unhide P5).below hb)
  have T7 := hide ((unhide T5).below hb)
  have U7 := hide (own_below (unhide U6) hb)
  have B7 := hide (below_step (unhide B5) hb (by omega))
  clear hb I5 A5 P5 T5 U6 B5
  rw [unhide HDD] at hR
  rw [unhide HCD, unhide HDD]
  have S8 := hide hR
  clear hR
  have ca0 := (unhide P7).cell 0
  have ca1 := (unhide P7).cell 1
  have ca2 := (unhide P7).cell 2
  simp at ca0 ca1 ca2
  have lca : w.heap.size < w7.heap.size := by omega
  go_wp2_with fail
  clear ca0 ca1 ca2 lca
  obtain ⟨W9, hW, z9, hbx, hx⟩ := boxes1 w7 [.int .i64 cd, .slice as1 DD.words.length cs1, .slice as2 DD.flights.length cs2, .slice as3 DD.over.length cs3] 31
  rw [← hW]
  clear hW
  have I9 := hide ((unhide I7).below (unhide hbx))
  have A9 := hide ((unhide A7).below (unhide hbx))
  have P9 := hide ((unhide P7).below (unhide hbx))
  have S9 := hide ((unhide S8).below (unhide hbx))
  have B9 := hide (below_step (unhide B7) (unhide hbx) (by omega))
  have R9 := hx
  clear hbx hx I7 A7 P7 S8 B7
  have u9 : w7.heap.size < W9.heap.size := by omega
  generalize w7.heap.size = b9 at *
  refine (toDevice_any _ _ _ _ _ _ D _ (unhide A9) k1 k2 k3).mono ?_
  rintro e w10 ⟨⟨x1, x2, x3, rfl, hO⟩, hb⟩
  have z10 : W9.heap.size ≤ w10.heap.size := hb.size
  have I10 := hide ((unhide I9).below hb)
  have A10 := hide ((unhide A9).below hb)
  have P10 := hide ((unhide P9).below hb)
  have S10 := hide ((unhide S9).below hb)
  have R10 := hide ((unhide R9).below hb)
  have B10 := hide (below_step (unhide B9) hb (by omega))
  clear hb I9 A9 P9 S9 R9 B9
  have X11 := hide hO
  have LX := hide (fun q hq => OwnDev.lt (q := q) hO hq)
  clear hO
  go_wp2_with fail
  obtain ⟨W12, hW, z12, hbx, hx⟩ := boxes1 w10 [.slice (some ⟨x1, 0, none⟩) D.words.length D.words.length, .slice (some ⟨x2, 0, none⟩) D.flights.length D.flights.length, .slice (some ⟨x3, 0, none⟩) D.over.length D.over.length] 27
  rw [← hW]
  clear hW
  have I12 := hide ((unhide I10).below (unhide hbx))
  have A12 := hide ((unhide A10).below (unhide hbx))
  have P12 := hide ((unhide P10).below (unhide hbx))
  have S12 := hide ((unhide S10).below (unhide hbx))
  have R12 := hide ((unhide R10).below (unhide hbx))
  have X12 := hide ((unhide X11).below (unhide hbx))
  have B12 := hide (below_step (unhide B10) (unhide hbx) (by omega))
  have Q12 := hx
  clear hbx hx I10 A10 P10 S10 R10 X11 B10
  have u12 : w10.heap.size < W12.heap.size := by omega
  generalize w10.heap.size = b12 at *
  refine (toInts_any af cf fs _ (unhide I12) k4).mono ?_
  rintro e w13 ⟨⟨gy, rfl, hO⟩, hb⟩
  have z13 : W12.heap.size ≤ w13.heap.size := hb.size
  have I13 := hide ((unhide I12).below hb)
  have A13 := hide ((unhide A12).below hb)
  have P13 := hide ((unhide P12).below hb)
  have S13 := hide ((unhide S12).below hb)
  have R13 := hide ((unhide R12).below hb)
  have X13 := hide ((unhide X12).below hb)
  have Q13 := hide ((unhide Q12).below hb)
  have B13 := hide (below_step (unhide B12) hb (by omega))
  clear hb I12 A12 P12 S12 R12 X12 Q12 B12
  have Y14 := hide hO
  have LY := hide (fun q hq => hO.lt q hq)
  clear hO
  have cx0 := (unhide Q13).cell 0
  have cx1 := (unhide Q13).cell 1
  have cx2 := (unhide Q13).cell 2
  simp at cx0 cx1 cx2
  have lcx : b12 < w13.heap.size := by omega
  go_wp2_with fail
  clear cx0 cx1 cx2 lcx
  refine (implCrashDevice_any _ _ _ _ _ _ D _ _ fs _ (unhide X13).reads (intsAt_slice (unhide Y14)) k1 k2 k3 k4).mono ?_
  rintro e w15 ⟨⟨s1, s2, s3, rfl, hO⟩, hb⟩
  have z15 : w13.heap.size ≤ w15.heap.size := hb.size
  have I15 := hide ((unhide I13).below hb)
  have A15 := hide ((unhide A13).below hb)
  have P15 := hide ((unhide P13).below hb)
  have S15 := hide ((unhide S13).below hb)
  have R15 := hide ((unhide R13).below hb)
  have X15 := hide ((unhide X13).below hb)
  have Q15 := hide ((unhide Q13).below hb)
  have Y15 := hide (own_below (unhide Y14) hb)
  have B15 := hide (below_step (unhide B13) hb (by omega))
  clear hb I13 A13 P13 S13 R13 X13 Q13 Y14 B13
  rw [unhide HDD] at hO
  obtain ⟨ag1, cg1, ag2, cg2, ag3, cg3, e1, e2, e3, -⟩ := hO.form
  subst e1 e2 e3
  rw [unhide HCD]
  have G16 := hide hO
  have LG := hide (fun q hq => OwnDev.lt (q := q) hO hq)
  clear hO
  have cr0 := (unhide R15).cell 0
  have cr1 := (unhide R15).cell 1
  have cr2 := (unhide R15).cell 2
  have cr3 := (unhide R15).cell 3
  simp at cr0 cr1 cr2 cr3
  have lcr : b9 < w15.heap.size := by omega
  go_wp2_with fail
  clear cr0 cr1 cr2 cr3 lcr
  obtain ⟨W17, hW, z17, hbx, hx⟩ := boxes1 w15 [.int .i64 cd, .slice ag1 DD.words.length cg1, .slice ag2 DD.flights.length cg2, .slice ag3 DD.over.length cg3] 31
  rw [← hW]
  clear hW
  have I17 := hide ((unhide I15).below (unhide hbx))
  have A17 := hide ((unhide A15).below (unhide hbx))
  have P17 := hide ((unhide P15).below (unhide hbx))
  have S17 := hide ((unhide S15).below (unhide hbx))
  have R17 := hide ((unhide R15).below (unhide hbx))
  have X17 := hide ((unhide X15).below (unhide hbx))
  have Q17 := hide ((unhide Q15).below (unhide hbx))
  have Y17 := hide (own_below (unhide Y15) (unhide hbx))
  have G17 := hide ((unhide G16).below (unhide hbx))
  have B17 := hide (below_step (unhide B15) (unhide hbx) (by omega))
  have V17 := hx
  clear hbx hx I15 A15 P15 S15 R15 X15 Q15 Y15 G16 B15
  have u17 : w15.heap.size < W17.heap.size := by omega
  generalize w15.heap.size = b17 at *
  refine (eqDeviceResult_same cd _ _ _ _ _ _ _ _ _ _ _ _ DD _ (unhide G17).reads (unhide S17).r m1 m2 m3).mono ?_
  rintro e w18 ⟨rfl, hb⟩
  have z18 : W17.heap.size ≤ w18.heap.size := hb.size
  have I18 := hide ((unhide I17).below hb)
  have A18 := hide ((unhide A17).below hb)
  have P18 := hide ((unhide P17).below hb)
  have S18 := hide ((unhide S17).below hb)
  have R18 := hide ((unhide R17).below hb)
  have X18 := hide ((unhide X17).below hb)
  have Q18 := hide ((unhide Q17).below hb)
  have Y18 := hide (own_below (unhide Y17) hb)
  have G18 := hide ((unhide G17).below hb)
  have V18 := hide ((unhide V17).below hb)
  have B18 := hide (below_step (unhide B17) hb (by omega))
  clear hb I17 A17 P17 S17 R17 X17 Q17 Y17 G17 V17 B17
  have ca0 := (unhide P18).cell 0
  have ca1 := (unhide P18).cell 1
  have ca2 := (unhide P18).cell 2
  simp at ca0 ca1 ca2
  have lca : w.heap.size < w18.heap.size := by omega
  have cx0 := (unhide Q18).cell 0
  have cx1 := (unhide Q18).cell 1
  have cx2 := (unhide Q18).cell 2
  simp at cx0 cx1 cx2
  have lcx : b12 < w18.heap.size := by omega
  have hD : (fun w' => Below w18.heap.size w18 w' ∧ w'.cell? ⟨w.heap.size, 0, none⟩ = some (.slice a1 D.words.length c1) ∧ w'.cell? ⟨w.heap.size, 1, none⟩ = some (.slice a2 D.flights.length c2) ∧ w'.cell? ⟨w.heap.size, 2, none⟩ = some (.slice a3 D.over.length c3) ∧ w'.cell? ⟨b12, 0, none⟩ = some (.slice (some ⟨x1, 0, none⟩) D.words.length D.words.length) ∧ w'.cell? ⟨b12, 1, none⟩ = some (.slice (some ⟨x2, 0, none⟩) D.flights.length D.flights.length) ∧ w'.cell? ⟨b12, 2, none⟩ = some (.slice (some ⟨x3, 0, none⟩) D.over.length D.over.length)) w18.drew := ⟨(Below.refl _ _).drew, ca0, ca1, ca2, cx0, cx1, cx2⟩
  have HD := hide hD
  clear hD
  go_wp2_with fail
  clear ca0 ca1 ca2 lca cx0 cx1 cx2 lcx
  go_region_held3 (fun w' => Below w18.heap.size w18 w' ∧ w'.cell? ⟨w.heap.size, 0, none⟩ = some (.slice a1 D.words.length c1) ∧ w'.cell? ⟨w.heap.size, 1, none⟩ = some (.slice a2 D.flights.length c2) ∧ w'.cell? ⟨w.heap.size, 2, none⟩ = some (.slice a3 D.over.length c3) ∧ w'.cell? ⟨b12, 0, none⟩ = some (.slice (some ⟨x1, 0, none⟩) D.words.length D.words.length) ∧ w'.cell? ⟨b12, 1, none⟩ = some (.slice (some ⟨x2, 0, none⟩) D.flights.length D.flights.length) ∧ w'.cell? ⟨b12, 2, none⟩ = some (.slice (some ⟨x3, 0, none⟩) D.over.length D.over.length)) (first | exact unhide HD | exact keep6 (by omega) (by omega) (by assumption) (by assumption))
    (first
      | (go_at_call 37; refine (toDevice_any _ _ _ _ _ _ _ _ ((unhide A18).below (sleft (by assumption))) k1 k2 k3).mono ?_; rintro e w5 ⟨⟨h1, h2, h3, rfl, hO⟩, hb5⟩)
      | (go_at_call 40; refine (eqDevice_same _ _ _ _ _ _ _ _ _ _ _ _ D _ ((unhide X18).reads.below (sleft (by assumption))) (OwnDev.reads (D := D) (by assumption)) k1 k2 k3).mono ?_; rintro e w5 ⟨rfl, hb5⟩))
  rename_i hS
  have hbS := hS.1
  clear hS HD hb5
  generalize hwn : w5 = w19 at *
  clear hwn
  have z19 : w18.heap.size ≤ w19.heap.size := hbS.size
  have I19 := hide ((unhide I18).below hbS)
  have A19 := hide ((unhide A18).below hbS)
  have P19 := hide ((unhide P18).below hbS)
  have S19 := hide ((unhide S18).below hbS)
  have R19 := hide ((unhide R18).below hbS)
  have X19 := hide ((unhide X18).below hbS)
  have Q19 := hide ((unhide Q18).below hbS)
  have Y19 := hide (own_below (unhide Y18) hbS)
  have G19 := hide ((unhide G18).below hbS)
  have V19 := hide ((unhide V18).below hbS)
  have B19 := hide (below_step (unhide B18) hbS (by omega))
  clear hbS I18 A18 P18 S18 R18 X18 Q18 Y18 G18 V18 B18
  go_wp2_with fail
  refine (toInts_any af cf fs _ (unhide I19) k4).mono ?_
  rintro e w20 ⟨⟨gv, rfl, hO⟩, hb⟩
  have z20 : w19.heap.size ≤ w20.heap.size := hb.size
  have I20 := hide ((unhide I19).below hb)
  have A20 := hide ((unhide A19).below hb)
  have P20 := hide ((unhide P19).below hb)
  have S20 := hide ((unhide S19).below hb)
  have R20 := hide ((unhide R19).below hb)
  have X20 := hide ((unhide X19).below hb)
  have Q20 := hide ((unhide Q19).below hb)
  have Y20 := hide (own_below (unhide Y19) hb)
  have G20 := hide ((unhide G19).below hb)
  have V20 := hide ((unhide V19).below hb)
  have B20 := hide (below_step (unhide B19) hb (by omega))
  clear hb I19 A19 P19 S19 R19 X19 Q19 Y19 G19 V19 B19
  have U221 := hide hO
  have LU2 := hide (fun q hq => hO.lt q hq)
  clear hO
  go_wp2_with fail
  refine (eqInt64S_same _ _ _ _ fs _ (intsAt_slice (unhide Y20)) (intsAt_slice (unhide U221)) k4).mono ?_
  rintro e w22 ⟨rfl, hb⟩
  have z22 : w20.heap.size ≤ w22.heap.size := hb.size
  have I22 := hide ((unhide I20).below hb)
  have A22 := hide ((unhide A20).below hb)
  have P22 := hide ((unhide P20).below hb)
  have S22 := hide ((unhide S20).below hb)
  have R22 := hide ((unhide R20).below hb)
  have X22 := hide ((unhide X20).below hb)
  have Q22 := hide ((unhide Q20).below hb)
  have Y22 := hide (own_below (unhide Y20) hb)
  have G22 := hide ((unhide G20).below hb)
  have V22 := hide ((unhide V20).below hb)
  have U222 := hide (own_below (unhide U221) hb)
  have B22 := hide (below_step (unhide B20) hb (by omega))
  clear hb I20 A20 P20 S20 R20 X20 Q20 Y20 G20 V20 U221 B20
  have cx0 := (unhide Q22).cell 0
  have cx1 := (unhide Q22).cell 1
  have cx2 := (unhide Q22).cell 2
  simp at cx0 cx1 cx2
  have lcx : b12 < w22.heap.size := by omega
  go_wp2_with fail
  clear cx0 cx1 cx2 lcx
  refine (markDevice_any _ _ _ _ D 1 _ (unhide X22) k1 k2 k3 (by omega) (by omega)).mono ?_
  rintro e w23 ⟨rfl, hO, ho⟩
  have z23 : w22.heap.size ≤ w23.heap.size := ho.size
  have P23 := hide ((unhide P22).out ho (fun h => by have h2 := unhide LX _ h; omega))
  have S23 := hide ((unhide S22).out ho (fun q h1 h2 h => by have h2 := unhide LX _ h; omega))
  have R23 := hide ((unhide R22).out ho (fun h => by have h2 := unhide LX _ h; omega))
  have Q23 := hide ((unhide Q22).out ho (fun h => by have h2 := unhide LX _ h; omega))
  have Y23 := hide (ho.own (unhide Y22) (fun q hq h => by have h2 := unhide LX _ h; have h1 := unhide LY _ hq; omega))
  have G23 := hide ((unhide G22).out ho (fun q hq h => by have h2 := unhide LX _ h; have h1 := unhide LG _ hq; omega))
  have V23 := hide ((unhide V22).out ho (fun h => by have h2 := unhide LX _ h; omega))
  have B23 := hide (ho.below (unhide B22) (Nat.le_refl _) (fun q hq h => by have h2 := unhide LX _ h; omega))
  have I23 := hide ((unhide IZ).below (unhide B23))
  have A23 := hide ((unhide AZ).below (unhide B23))
  have X23 := hide hO
  clear ho hO P22 S22 R22 Q22 Y22 G22 V22 B22 I22 A22 X22
  have km : 1 ≤ markedTo D 1 ∧ markedTo D 1 ≤ 10000000 := by unfold markedTo; omega
  go_wp2_with fail
  refine (markInt64S_any _ fs.length _ _ (markedTo D 1) _ (unhide Y23) k4 km.1 km.2).mono ?_
  rintro e w24 ⟨rfl, hO, ho⟩
  have z24 : w23.heap.size ≤ w24.heap.size := ho.size
  have P24 := hide ((unhide P23).out ho (fun h => by have h2 := unhide LY _ h; omega))
  have S24 := hide ((unhide S23).out ho (fun q h1 h2 h => by have h2 := unhide LY _ h; omega))
  have R24 := hide ((unhide R23).out ho (fun h => by have h2 := unhide LY _ h; omega))
  have X24 := hide ((unhide X23).out ho (fun q hq h => by have h2 := unhide LY _ h; have h1 := unhide LX _ hq; omega))
  have Q24 := hide ((unhide Q23).out ho (fun h => by have h2 := unhide LY _ h; omega))
  have G24 := hide ((unhide G23).out ho (fun q hq h => by have h2 := unhide LY _ h; have h1 := unhide LG _ hq; omega))
  have V24 := hide ((unhide V23).out ho (fun h => by have h2 := unhide LY _ h; omega))
  have B24 := hide (ho.below (unhide B23) (Nat.le_refl _) (fun q hq h => by have h2 := unhide LY _ h; omega))
  have I24 := hide ((unhide IZ).below (unhide B24))
  have A24 := hide ((unhide AZ).below (unhide B24))
  have Y24 := hide hO
  clear ho hO P23 S23 R23 X23 Q23 G23 V23 B23 I23 A23 Y23
  have cv0 := (unhide V24).cell 0
  have cv1 := (unhide V24).cell 1
  have cv2 := (unhide V24).cell 2
  have cv3 := (unhide V24).cell 3
  simp at cv0 cv1 cv2 cv3
  have lcv : b17 < w24.heap.size := by omega
  have cr0 := (unhide R24).cell 0
  have cr1 := (unhide R24).cell 1
  have cr2 := (unhide R24).cell 2
  have cr3 := (unhide R24).cell 3
  simp at cr0 cr1 cr2 cr3
  have lcr : b9 < w24.heap.size := by omega
  have kd : ¬ markedTo D 1 + fs.length < 0 := by omega
  go_wp2_with fail
  clear cv0 cv1 cv2 cv3 lcv cr0 cr1 cr2 cr3 lcr
  refine (eqDeviceResult_same cd _ _ _ _ _ _ _ _ _ _ _ _ DD _ (unhide G24).reads (unhide S24).r m1 m2 m3).mono ?_
  rintro e w25 ⟨rfl, hb⟩
  have z25 : w24.heap.size ≤ w25.heap.size := hb.size
  have I25 := hide ((unhide I24).below hb)
  have A25 := hide ((unhide A24).below hb)
  have P25 := hide ((unhide P24).below hb)
  have S25 := hide ((unhide S24).below hb)
  have R25 := hide ((unhide R24).below hb)
  have X25 := hide ((unhide X24).below hb)
  have Q25 := hide ((unhide Q24).below hb)
  have G25 := hide ((unhide G24).below hb)
  have V25 := hide ((unhide V24).below hb)
  have B25 := hide (below_step (unhide B24) hb (by omega))
  clear hb I24 A24 P24 S24 R24 X24 Q24 G24 V24 B24
  have cv0 := (unhide V25).cell 0
  have cv1 := (unhide V25).cell 1
  have cv2 := (unhide V25).cell 2
  have cv3 := (unhide V25).cell 3
  simp at cv0 cv1 cv2 cv3
  have lcv : b17 < w25.heap.size := by omega
  go_wp2_with fail
  clear cv0 cv1 cv2 cv3 lcv
  refine (markDeviceResult_any cd _ _ _ _ DD 1 _ (unhide G25) m1 m2 m3 (by omega) (by omega)).mono ?_
  rintro e w26 ⟨rfl, hO, ho⟩
  have z26 : w25.heap.size ≤ w26.heap.size := ho.size
  have P26 := hide ((unhide P25).out ho (fun h => by have h2 := unhide LG _ h; omega))
  have S26 := hide ((unhide S25).out ho (fun q h1 h2 h => by have h2 := unhide LG _ h; omega))
  have R26 := hide ((unhide R25).out ho (fun h => by have h2 := unhide LG _ h; omega))
  have X26 := hide ((unhide X25).out ho (fun q hq h => by have h2 := unhide LG _ h; have h1 := unhide LX _ hq; omega))
  have Q26 := hide ((unhide Q25).out ho (fun h => by have h2 := unhide LG _ h; omega))
  have V26 := hide ((unhide V25).out ho (fun h => by have h2 := unhide LG _ h; omega))
  have B26 := hide (ho.below (unhide B25) (Nat.le_refl _) (fun q hq h => by have h2 := unhide LG _ h; omega))
  have I26 := hide ((unhide IZ).below (unhide B26))
  have A26 := hide ((unhide AZ).below (unhide B26))
  have G26 := hide hO
  clear ho hO P25 S25 R25 X25 Q25 V25 B25 I25 A25 G25
  have cv0 := (unhide V26).cell 0
  have cv1 := (unhide V26).cell 1
  have cv2 := (unhide V26).cell 2
  have cv3 := (unhide V26).cell 3
  simp at cv0 cv1 cv2 cv3
  have lcv : b17 < w26.heap.size := by omega
  have kk : ¬ markedTo DD 1 < 0 := by unfold markedTo; omega
  have kn := int_neq_self (markedTo DD 1)
  go_wp2_with fail
  clear cv0 cv1 cv2 cv3 lcv
  refine (heldDeviceResult_any cd _ _ _ _ _ _ DD 1 _ (unhide G26).reads m1 m2 m3 (by omega) (by omega)).mono ?_
  rintro e w27 ⟨rfl, hb⟩
  have z27 : w26.heap.size ≤ w27.heap.size := hb.size
  have I27 := hide ((unhide I26).below hb)
  have A27 := hide ((unhide A26).below hb)
  have P27 := hide ((unhide P26).below hb)
  have S27 := hide ((unhide S26).below hb)
  have R27 := hide ((unhide R26).below hb)
  have X27 := hide ((unhide X26).below hb)
  have Q27 := hide ((unhide Q26).below hb)
  have G27 := hide ((unhide G26).below hb)
  have V27 := hide ((unhide V26).below hb)
  have B27 := hide (below_step (unhide B26) hb (by omega))
  clear hb I26 A26 P26 S26 R26 X26 Q26 G26 V26 B26
  have ca0 := (unhide P27).cell 0
  have ca1 := (unhide P27).cell 1
  have ca2 := (unhide P27).cell 2
  simp at ca0 ca1 ca2
  have lca : w.heap.size < w27.heap.size := by omega
  go_wp2_with fail
  clear ca0 ca1 ca2 lca
  refine (toDevice_any _ _ _ _ _ _ D _ (unhide A27) k1 k2 k3).mono ?_
  rintro e w28 ⟨⟨y1, y2, y3, rfl, hO⟩, hb⟩
  have z28 : w27.heap.size ≤ w28.heap.size := hb.size
  have I28 := hide ((unhide I27).below hb)
  have A28 := hide ((unhide A27).below hb)
  have P28 := hide ((unhide P27).below hb)
  have S28 := hide ((unhide S27).below hb)
  have R28 := hide ((unhide R27).below hb)
  have X28 := hide ((unhide X27).below hb)
  have Q28 := hide ((unhide Q27).below hb)
  have G28 := hide ((unhide G27).below hb)
  have V28 := hide ((unhide V27).below hb)
  have B28 := hide (below_step (unhide B27) hb (by omega))
  clear hb I27 A27 P27 S27 R27 X27 Q27 G27 V27 B27
  have T229 := hide hO
  have LT2 := hide (fun q hq => OwnDev.lt (q := q) hO hq)
  clear hO
  go_wp2_with fail
  refine (toInts_any af cf fs _ (unhide I28) k4).mono ?_
  rintro e w30 ⟨⟨gz, rfl, hO⟩, hb⟩
  have z30 : w28.heap.size ≤ w30.heap.size := hb.size
  have I30 := hide ((unhide I28).below hb)
  have A30 := hide ((unhide A28).below hb)
  have P30 := hide ((unhide P28).below hb)
  have S30 := hide ((unhide S28).below hb)
  have R30 := hide ((unhide R28).below hb)
  have X30 := hide ((unhide X28).below hb)
  have Q30 := hide ((unhide Q28).below hb)
  have G30 := hide ((unhide G28).below hb)
  have V30 := hide ((unhide V28).below hb)
  have T230 := hide ((unhide T229).below hb)
  have B30 := hide (below_step (unhide B28) hb (by omega))
  clear hb I28 A28 P28 S28 R28 X28 Q28 G28 V28 T229 B28
  have U331 := hide hO
  have LU3 := hide (fun q hq => hO.lt q hq)
  clear hO
  go_wp2_with fail
  refine (implCrashDevice_any _ _ _ _ _ _ D _ _ fs _ (unhide T230).reads (intsAt_slice (unhide U331)) k1 k2 k3 k4).mono ?_
  rintro e w32 ⟨⟨s1, s2, s3, rfl, hO⟩, hb⟩
  have z32 : w30.heap.size ≤ w32.heap.size := hb.size
  have I32 := hide ((unhide I30).below hb)
  have A32 := hide ((unhide A30).below hb)
  have P32 := hide ((unhide P30).below hb)
  have S32 := hide ((unhide S30).below hb)
  have R32 := hide ((unhide R30).below hb)
  have X32 := hide ((unhide X30).below hb)
  have Q32 := hide ((unhide Q30).below hb)
  have G32 := hide ((unhide G30).below hb)
  have V32 := hide ((unhide V30).below hb)
  have T232 := hide ((unhide T230).below hb)
  have U332 := hide (own_below (unhide U331) hb)
  have B32 := hide (below_step (unhide B30) hb (by omega))
  clear hb I30 A30 P30 S30 R30 X30 Q30 G30 V30 T230 U331 B30
  rw [unhide HDD] at hO
  obtain ⟨ah1, ch1, ah2, ch2, ah3, ch3, e1, e2, e3, -⟩ := hO.form
  subst e1 e2 e3
  rw [unhide HCD]
  have H33 := hide hO
  have LH := hide (fun q hq => OwnDev.lt (q := q) hO hq)
  clear hO
  have cr0 := (unhide R32).cell 0
  have cr1 := (unhide R32).cell 1
  have cr2 := (unhide R32).cell 2
  have cr3 := (unhide R32).cell 3
  simp at cr0 cr1 cr2 cr3
  have lcr : b9 < w32.heap.size := by omega
  go_wp2_with fail
  clear cr0 cr1 cr2 cr3 lcr
  obtain ⟨W34, hW, z34, hbx, hx⟩ := boxes1 w32 [.int .i64 cd, .slice ah1 DD.words.length ch1, .slice ah2 DD.flights.length ch2, .slice ah3 DD.over.length ch3] 31
  rw [← hW]
  clear hW
  have I34 := hide ((unhide I32).below (unhide hbx))
  have A34 := hide ((unhide A32).below (unhide hbx))
  have P34 := hide ((unhide P32).below (unhide hbx))
  have S34 := hide ((unhide S32).below (unhide hbx))
  have R34 := hide ((unhide R32).below (unhide hbx))
  have X34 := hide ((unhide X32).below (unhide hbx))
  have Q34 := hide ((unhide Q32).below (unhide hbx))
  have G34 := hide ((unhide G32).below (unhide hbx))
  have V34 := hide ((unhide V32).below (unhide hbx))
  have T234 := hide ((unhide T232).below (unhide hbx))
  have U334 := hide (own_below (unhide U332) (unhide hbx))
  have H34 := hide ((unhide H33).below (unhide hbx))
  have B34 := hide (below_step (unhide B32) (unhide hbx) (by omega))
  have Z34 := hx
  clear hbx hx I32 A32 P32 S32 R32 X32 Q32 G32 V32 T232 U332 H33 B32
  have u34 : w32.heap.size < W34.heap.size := by omega
  generalize w32.heap.size = b34 at *
  refine (eqDeviceResult_same cd _ _ _ _ _ _ _ _ _ _ _ _ DD _ (unhide H34).reads (unhide S34).r m1 m2 m3).mono ?_
  rintro e w35 ⟨rfl, hb⟩
  have z35 : W34.heap.size ≤ w35.heap.size := hb.size
  have I35 := hide ((unhide I34).below hb)
  have A35 := hide ((unhide A34).below hb)
  have P35 := hide ((unhide P34).below hb)
  have S35 := hide ((unhide S34).below hb)
  have R35 := hide ((unhide R34).below hb)
  have X35 := hide ((unhide X34).below hb)
  have Q35 := hide ((unhide Q34).below hb)
  have G35 := hide ((unhide G34).below hb)
  have V35 := hide ((unhide V34).below hb)
  have T235 := hide ((unhide T234).below hb)
  have U335 := hide (own_below (unhide U334) hb)
  have H35 := hide ((unhide H34).below hb)
  have Z35 := hide ((unhide Z34).below hb)
  have B35 := hide (below_step (unhide B34) hb (by omega))
  clear hb I34 A34 P34 S34 R34 X34 Q34 G34 V34 T234 U334 H34 Z34 B34
  have cv0 := (unhide V35).cell 0
  have cv1 := (unhide V35).cell 1
  have cv2 := (unhide V35).cell 2
  have cv3 := (unhide V35).cell 3
  simp at cv0 cv1 cv2 cv3
  have lcv : b17 < w35.heap.size := by omega
  go_wp2_with fail
  clear cv0 cv1 cv2 cv3 lcv
  refine (heldDeviceResult_any cd _ _ _ _ _ _ DD 1 _ (unhide G35).reads m1 m2 m3 (by omega) (by omega)).mono ?_
  rintro e w36 ⟨rfl, hb⟩
  have z36 : w35.heap.size ≤ w36.heap.size := hb.size
  have I36 := hide ((unhide I35).below hb)
  have A36 := hide ((unhide A35).below hb)
  have P36 := hide ((unhide P35).below hb)
  have S36 := hide ((unhide S35).below hb)
  have R36 := hide ((unhide R35).below hb)
  have X36 := hide ((unhide X35).below hb)
  have Q36 := hide ((unhide Q35).below hb)
  have G36 := hide ((unhide G35).below hb)
  have V36 := hide ((unhide V35).below hb)
  have T236 := hide ((unhide T235).below hb)
  have U336 := hide (own_below (unhide U335) hb)
  have H36 := hide ((unhide H35).below hb)
  have Z36 := hide ((unhide Z35).below hb)
  have B36 := hide (below_step (unhide B35) hb (by omega))
  clear hb I35 A35 P35 S35 R35 X35 Q35 G35 V35 T235 U335 H35 Z35 B35
  go_wp2_with fail
  go_ret
  exact ⟨rfl, unhide B36⟩
end Go.Proofs.Ytdnfadbkpajloaa.fnExactCrashDevice
