/-
  The walk of laws.FnExactFlushLine: it returns true, and writes nothing that was there.
-/
import Derived.Test.YtpngbpohopkkaaaSFlushWalk
import Derived.Test.YtpngbpohopkkaaaLawsKit
import Derived.Test.YtpngbpohopkkaaaDevMark
namespace Go.Proofs.Ytpngbpohopkkaaa.fnExactFlushLine
open Go.RowKit

set_option maxHeartbeats 4000000 in
theorem walk (a1 a2 a3 : Option Addr) (c1 c2 c3 : Nat) (D : Dev) (n : Int) (w : World) (h : DevAt w a1 a2 a3 D) (l1 : D.words.length ≤ maxLen) (l2 : D.flights.length ≤ maxLen) (l3 : D.over.length ≤ maxLen) (_wn : (Lit.int .i64 n).wf = true) :
    Calls Try.prog 7 #[.agg #[.slice a1 D.words.length c1, .slice a2 D.flights.length c2, .slice a3 D.over.length c3], .int .i64 n] w fun e w' => e = .returned (.bool true) ∧ Below w.heap.size w w' := by
  have A0 := hide h
  have AZ := A0
  clear h
  go_enter Try.func7, Try.ntmps7
  go_wp2_with fail
  obtain ⟨W1, hW, z1, hbx, hx⟩ := boxes1 w [.slice a1 D.words.length c1, .slice a2 D.flights.length c2, .slice a3 D.over.length c3] 25
  rw [← hW]
  clear hW
  have A1 := hide ((unhide A0).below (unhide hbx))
  have B1 := hbx
  have P1 := hx
  clear hbx hx A0
  refine (szDevice_any a1 a2 a3 _ c1 _ c2 _ c3 1048576 _ (by omega) (by omega) l1 l2 l3).mono ?_
  rintro e w2 ⟨⟨r, rfl, hr⟩, hb⟩
  have z2 : W1.heap.size ≤ w2.heap.size := hb.size
  have A2 := hide ((unhide A1).below hb)
  have P2 := hide ((unhide P1).below hb)
  have B2 := hide (below_step (unhide B1) hb (by omega))
  clear hb A1 P1 B1
  by_cases hv : r < 0
  · clear hr
    go_wp2_with fail
    go_ret
    exact ⟨rfl, unhide B2⟩
  have hl : ((D.words.length : Int) + D.flights.length + D.over.length) ≤ 1048576 := by rcases hr with h | h <;> omega
  clear hr
  have k1 : D.words.length ≤ 1048576 := by omega
  have k2 : D.flights.length ≤ 1048576 := by omega
  have k3 : D.over.length ≤ 1048576 := by omega
  clear l1 l2 l3
  obtain ⟨m1, m2, m3⟩ := flushDev_len D n hl
  clear hl
  generalize hDD : chgDev D (flushCode D n) (flushDev D n) = DD at *
  have HDD := hide hDD
  clear hDD
  generalize hcd : chgCode D (flushCode D n) = cd at *
  have HCD := hide hcd
  clear hcd
  have ca0 := (unhide P2).cell 0
  have ca1 := (unhide P2).cell 1
  have ca2 := (unhide P2).cell 2
  simp at ca0 ca1 ca2
  have lca : w.heap.size < w2.heap.size := by omega
  go_wp2_with fail
  clear ca0 ca1 ca2 lca
  refine (toDevice_any _ _ _ _ _ _ D _ (unhide A2) k1 k2 k3).mono ?_
  rintro e w3 ⟨⟨t1, t2, t3, rfl, hO⟩, hb⟩
  have z3 : w2.heap.size ≤ w3.heap.size := hb.size
  have A3 := hide ((unhide A2).below hb)
  have P3 := hide ((unhide P2).below hb)
  have B3 := hide (below_step (unhide B2) hb (by omega))
  clear hb A2 P2 B2
  have T4 := hide hO
  have LT := hide (fun q hq => OwnDev.lt (q := q) hO hq)
  clear hO
  go_wp2_with fail
  refine (specFlushLine_any _ _ _ _ _ _ D n _ (unhide T4).reads k1 k2 k3).mono ?_
  rintro e w5 ⟨⟨as1, cs1, as2, cs2, as3, cs3, rfl, hR⟩, hb⟩
  have z5 : w3.heap.size ≤ w5.heap.size := hb.size
  have A5 := hide ((unhide A3).below hb)
  have P5 := hide ((unhide P3).below hb)
  have T5 := hide ((unhide T4).below hb)
  have B5 := hide (below_step (unhide B3) hb (by omega))
  clear hb A3 P3 T4 B3
  rw [unhide HDD] at hR
  rw [unhide HCD, unhide HDD]
  have S6 := hide hR
  clear hR
  have ca0 := (unhide P5).cell 0
  have ca1 := (unhide P5).cell 1
  have ca2 := (unhide P5).cell 2
  simp at ca0 ca1 ca2
  have lca : w.heap.size < w5.heap.size := by omega
  go_wp2_with fail
  clear ca0 ca1 ca2 lca
  obtain ⟨W7, hW, z7, hbx, hx⟩ := boxes1 w5 [.int .i64 cd, .slice as1 DD.words.length cs1, .slice as2 DD.flights.length cs2, .slice as3 DD.over.length cs3] 35
  rw [← hW]
  clear hW
  have A7 := hide ((unhide A5).below (unhide hbx))
  have P7 := hide ((unhide P5).below (unhide hbx))
  have S7 := hide ((unhide S6).below (unhide hbx))
  have B7 := hide (below_step (unhide B5) (unhide hbx) (by omega))
  have R7 := hx
  clear hbx hx A5 P5 S6 B5
  have u7 : w5.heap.size < W7.heap.size := by omega
  generalize w5.heap.size = b7 at *
  refine (toDevice_any _ _ _ _ _ _ D _ (unhide A7) k1 k2 k3).mono ?_
  rintro e w8 ⟨⟨x1, x2, x3, rfl, hO⟩, hb⟩
  have z8 : W7.heap.size ≤ w8.heap.size := hb.size
  have A8 := hide ((unhide A7).below hb)
  have P8 := hide ((unhide P7).below hb)
  have S8 := hide ((unhide S7).below hb)
  have R8 := hide ((unhide R7).below hb)
  have B8 := hide (below_step (unhide B7) hb (by omega))
  clear hb A7 P7 S7 R7 B7
  have X9 := hide hO
  have LX := hide (fun q hq => OwnDev.lt (q := q) hO hq)
  clear hO
  go_wp2_with fail
  obtain ⟨W10, hW, z10, hbx, hx⟩ := boxes1 w8 [.slice (some ⟨x1, 0, none⟩) D.words.length D.words.length, .slice (some ⟨x2, 0, none⟩) D.flights.length D.flights.length, .slice (some ⟨x3, 0, none⟩) D.over.length D.over.length] 30
  rw [← hW]
  clear hW
  have A10 := hide ((unhide A8).below (unhide hbx))
  have P10 := hide ((unhide P8).below (unhide hbx))
  have S10 := hide ((unhide S8).below (unhide hbx))
  have R10 := hide ((unhide R8).below (unhide hbx))
  have X10 := hide ((unhide X9).below (unhide hbx))
  have B10 := hide (below_step (unhide B8) (unhide hbx) (by omega))
  have Q10 := hx
  clear hbx hx A8 P8 S8 R8 X9 B8
  have u10 : w8.heap.size < W10.heap.size := by omega
  generalize w8.heap.size = b10 at *
  refine (implFlushLine_any _ _ _ _ _ _ D n _ (unhide X10).reads k1 k2 k3).mono ?_
  rintro e w11 ⟨⟨s1, s2, s3, rfl, hO⟩, hb⟩
  have z11 : W10.heap.size ≤ w11.heap.size := hb.size
  have A11 := hide ((unhide A10).below hb)
  have P11 := hide ((unhide P10).below hb)
  have S11 := hide ((unhide S10).below hb)
  have R11 := hide ((unhide R10).below hb)
  have X11 := hide ((unhide X10).below hb)
  have Q11 := hide ((unhide Q10).below hb)
  have B11 := hide (below_step (unhide B10) hb (by omega))
  clear hb A10 P10 S10 R10 X10 Q10 B10
  rw [unhide HDD] at hO
  obtain ⟨ag1, cg1, ag2, cg2, ag3, cg3, e1, e2, e3, -⟩ := hO.form
  subst e1 e2 e3
  rw [unhide HCD]
  have G12 := hide hO
  have LG := hide (fun q hq => OwnDev.lt (q := q) hO hq)
  clear hO
  have cr0 := (unhide R11).cell 0
  have cr1 := (unhide R11).cell 1
  have cr2 := (unhide R11).cell 2
  have cr3 := (unhide R11).cell 3
  simp at cr0 cr1 cr2 cr3
  have lcr : b7 < w11.heap.size := by omega
  go_wp2_with fail
  clear cr0 cr1 cr2 cr3 lcr
  obtain ⟨W13, hW, z13, hbx, hx⟩ := boxes1 w11 [.int .i64 cd, .slice ag1 DD.words.length cg1, .slice ag2 DD.flights.length cg2, .slice ag3 DD.over.length cg3] 35
  rw [← hW]
  clear hW
  have A13 := hide ((unhide A11).below (unhide hbx))
  have P13 := hide ((unhide P11).below (unhide hbx))
  have S13 := hide ((unhide S11).below (unhide hbx))
  have R13 := hide ((unhide R11).below (unhide hbx))
  have X13 := hide ((unhide X11).below (unhide hbx))
  have Q13 := hide ((unhide Q11).below (unhide hbx))
  have G13 := hide ((unhide G12).below (unhide hbx))
  have B13 := hide (below_step (unhide B11) (unhide hbx) (by omega))
  have V13 := hx
  clear hbx hx A11 P11 S11 R11 X11 Q11 G12 B11
  have u13 : w11.heap.size < W13.heap.size := by omega
  generalize w11.heap.size = b13 at *
  refine (eqDeviceResult_same cd _ _ _ _ _ _ _ _ _ _ _ _ DD _ (unhide G13).reads (unhide S13).r m1 m2 m3).mono ?_
  rintro e w14 ⟨rfl, hb⟩
  have z14 : W13.heap.size ≤ w14.heap.size := hb.size
  have A14 := hide ((unhide A13).below hb)
  have P14 := hide ((unhide P13).below hb)
  have S14 := hide ((unhide S13).below hb)
  have R14 := hide ((unhide R13).below hb)
  have X14 := hide ((unhide X13).below hb)
  have Q14 := hide ((unhide Q13).below hb)
  have G14 := hide ((unhide G13).below hb)
  have V14 := hide ((unhide V13).below hb)
  have B14 := hide (below_step (unhide B13) hb (by omega))
  clear hb A13 P13 S13 R13 X13 Q13 G13 V13 B13
  have ca0 := (unhide P14).cell 0
  have ca1 := (unhide P14).cell 1
  have ca2 := (unhide P14).cell 2
  simp at ca0 ca1 ca2
  have lca : w.heap.size < w14.heap.size := by omega
  have cx0 := (unhide Q14).cell 0
  have cx1 := (unhide Q14).cell 1
  have cx2 := (unhide Q14).cell 2
  simp at cx0 cx1 cx2
  have lcx : b10 < w14.heap.size := by omega
  have hD : (fun w' => Below w14.heap.size w14 w' ∧ w'.cell? ⟨w.heap.size, 0, none⟩ = some (.slice a1 D.words.length c1) ∧ w'.cell? ⟨w.heap.size, 1, none⟩ = some (.slice a2 D.flights.length c2) ∧ w'.cell? ⟨w.heap.size, 2, none⟩ = some (.slice a3 D.over.length c3) ∧ w'.cell? ⟨b10, 0, none⟩ = some (.slice (some ⟨x1, 0, none⟩) D.words.length D.words.length) ∧ w'.cell? ⟨b10, 1, none⟩ = some (.slice (some ⟨x2, 0, none⟩) D.flights.length D.flights.length) ∧ w'.cell? ⟨b10, 2, none⟩ = some (.slice (some ⟨x3, 0, none⟩) D.over.length D.over.length)) w14.drew := ⟨(Below.refl _ _).drew, ca0, ca1, ca2, cx0, cx1, cx2⟩
  have HD := hide hD
  clear hD
  go_wp2_with fail
  clear ca0 ca1 ca2 lca cx0 cx1 cx2 lcx
  go_region_held3 (fun w' => Below w14.heap.size w14 w' ∧ w'.cell? ⟨w.heap.size, 0, none⟩ = some (.slice a1 D.words.length c1) ∧ w'.cell? ⟨w.heap.size, 1, none⟩ = some (.slice a2 D.flights.length c2) ∧ w'.cell? ⟨w.heap.size, 2, none⟩ = some (.slice a3 D.over.length c3) ∧ w'.cell? ⟨b10, 0, none⟩ = some (.slice (some ⟨x1, 0, none⟩) D.words.length D.words.length) ∧ w'.cell? ⟨b10, 1, none⟩ = some (.slice (some ⟨x2, 0, none⟩) D.flights.length D.flights.length) ∧ w'.cell? ⟨b10, 2, none⟩ = some (.slice (some ⟨x3, 0, none⟩) D.over.length D.over.length)) (first | exact unhide HD | exact keep6 (by omega) (by omega) (by assumption) (by assumption))
    (first
      | (go_at_call 15; refine (toDevice_any _ _ _ _ _ _ _ _ ((unhide A14).below (sleft (by assumption))) k1 k2 k3).mono ?_; rintro e w5 ⟨⟨h1, h2, h3, rfl, hO⟩, hb5⟩)
      | (go_at_call 17; refine (eqDevice_same _ _ _ _ _ _ _ _ _ _ _ _ D _ ((unhide X14).reads.below (sleft (by assumption))) (OwnDev.reads (D := D) (by assumption)) k1 k2 k3).mono ?_; rintro e w5 ⟨rfl, hb5⟩))
  rename_i hS
  have hbS := hS.1
  clear hS HD hb5
  generalize hwn : w5 = w15 at *
  clear hwn
  have z15 : w14.heap.size ≤ w15.heap.size := hbS.size
  have A15 := hide ((unhide A14).below hbS)
  have P15 := hide ((unhide P14).below hbS)
  have S15 := hide ((unhide S14).below hbS)
  have R15 := hide ((unhide R14).below hbS)
  have X15 := hide ((unhide X14).below hbS)
  have Q15 := hide ((unhide Q14).below hbS)
  have G15 := hide ((unhide G14).below hbS)
  have V15 := hide ((unhide V14).below hbS)
  have B15 := hide (below_step (unhide B14) hbS (by omega))
  clear hbS A14 P14 S14 R14 X14 Q14 G14 V14 B14
  have cx0 := (unhide Q15).cell 0
  have cx1 := (unhide Q15).cell 1
  have cx2 := (unhide Q15).cell 2
  simp at cx0 cx1 cx2
  have lcx : b10 < w15.heap.size := by omega
  go_wp2_with fail
  clear cx0 cx1 cx2 lcx
  refine (markDevice_any _ _ _ _ D 1 _ (unhide X15) k1 k2 k3 (by omega) (by omega)).mono ?_
  rintro e w16 ⟨rfl, hO, ho⟩
  have z16 : w15.heap.size ≤ w16.heap.size := ho.size
  have P16 := hide ((unhide P15).out ho (fun h => by have h2 := unhide LX _ h; omega))
  have S16 := hide ((unhide S15).out ho (fun q h1 h2 h => by have h2 := unhide LX _ h; omega))
  have R16 := hide ((unhide R15).out ho (fun h => by have h2 := unhide LX _ h; omega))
  have Q16 := hide ((unhide Q15).out ho (fun h => by have h2 := unhide LX _ h; omega))
  have G16 := hide ((unhide G15).out ho (fun q hq h => by have h2 := unhide LX _ h; have h1 := unhide LG _ hq; omega))
  have V16 := hide ((unhide V15).out ho (fun h => by have h2 := unhide LX _ h; omega))
  have B16 := hide (ho.below (unhide B15) (Nat.le_refl _) (fun q hq h => by have h2 := unhide LX _ h; omega))
  have A16 := hide ((unhide AZ).below (unhide B16))
  have X16 := hide hO
  clear ho hO P15 S15 R15 Q15 G15 V15 B15 A15 X15
  have cv0 := (unhide V16).cell 0
  have cv1 := (unhide V16).cell 1
  have cv2 := (unhide V16).cell 2
  have cv3 := (unhide V16).cell 3
  simp at cv0 cv1 cv2 cv3
  have lcv : b13 < w16.heap.size := by omega
  have cr0 := (unhide R16).cell 0
  have cr1 := (unhide R16).cell 1
  have cr2 := (unhide R16).cell 2
  have cr3 := (unhide R16).cell 3
  simp at cr0 cr1 cr2 cr3
  have lcr : b7 < w16.heap.size := by omega
  have kd : ¬ markedTo D 1 < 0 := by unfold markedTo; omega
  go_wp2_with fail
  clear cv0 cv1 cv2 cv3 lcv cr0 cr1 cr2 cr3 lcr
  refine (eqDeviceResult_same cd _ _ _ _ _ _ _ _ _ _ _ _ DD _ (unhide G16).reads (unhide S16).r m1 m2 m3).mono ?_
  rintro e w17 ⟨rfl, hb⟩
  have z17 : w16.heap.size ≤ w17.heap.size := hb.size
  have A17 := hide ((unhide A16).below hb)
  have P17 := hide ((unhide P16).below hb)
  have S17 := hide ((unhide S16).below hb)
  have R17 := hide ((unhide R16).below hb)
  have X17 := hide ((unhide X16).below hb)
  have Q17 := hide ((unhide Q16).below hb)
  have G17 := hide ((unhide G16).below hb)
  have V17 := hide ((unhide V16).below hb)
  have B17 := hide (below_step (unhide B16) hb (by omega))
  clear hb A16 P16 S16 R16 X16 Q16 G16 V16 B16
  have cv0 := (unhide V17).cell 0
  have cv1 := (unhide V17).cell 1
  have cv2 := (unhide V17).cell 2
  have cv3 := (unhide V17).cell 3
  simp at cv0 cv1 cv2 cv3
  have lcv : b13 < w17.heap.size := by omega
  go_wp2_with fail
  clear cv0 cv1 cv2 cv3 lcv
  refine (markDeviceResult_any cd _ _ _ _ DD 1 _ (unhide G17) m1 m2 m3 (by omega) (by omega)).mono ?_
  rintro e w18 ⟨rfl, hO, ho⟩
  have z18 : w17.heap.size ≤ w18.heap.size := ho.size
  have P18 := hide ((unhide P17).out ho (fun h => by have h2 := unhide LG _ h; omega))
  have S18 := hide ((unhide S17).out ho (fun q h1 h2 h => by have h2 := unhide LG _ h; omega))
  have R18 := hide ((unhide R17).out ho (fun h => by have h2 := unhide LG _ h; omega))
  have X18 := hide ((unhide X17).out ho (fun q hq h => by have h2 := unhide LG _ h; have h1 := unhide LX _ hq; omega))
  have Q18 := hide ((unhide Q17).out ho (fun h => by have h2 := unhide LG _ h; omega))
  have V18 := hide ((unhide V17).out ho (fun h => by have h2 := unhide LG _ h; omega))
  have B18 := hide (ho.below (unhide B17) (Nat.le_refl _) (fun q hq h => by have h2 := unhide LG _ h; omega))
  have A18 := hide ((unhide AZ).below (unhide B18))
  have G18 := hide hO
  clear ho hO P17 S17 R17 X17 Q17 V17 B17 A17 G17
  have cv0 := (unhide V18).cell 0
  have cv1 := (unhide V18).cell 1
  have cv2 := (unhide V18).cell 2
  have cv3 := (unhide V18).cell 3
  simp at cv0 cv1 cv2 cv3
  have lcv : b13 < w18.heap.size := by omega
  have kk : ¬ markedTo DD 1 < 0 := by unfold markedTo; omega
  have kn := int_neq_self (markedTo DD 1)
  go_wp2_with fail
  clear cv0 cv1 cv2 cv3 lcv
  refine (heldDeviceResult_any cd _ _ _ _ _ _ DD 1 _ (unhide G18).reads m1 m2 m3 (by omega) (by omega)).mono ?_
  rintro e w19 ⟨rfl, hb⟩
  have z19 : w18.heap.size ≤ w19.heap.size := hb.size
  have A19 := hide ((unhide A18).below hb)
  have P19 := hide ((unhide P18).below hb)
  have S19 := hide ((unhide S18).below hb)
  have R19 := hide ((unhide R18).below hb)
  have X19 := hide ((unhide X18).below hb)
  have Q19 := hide ((unhide Q18).below hb)
  have G19 := hide ((unhide G18).below hb)
  have V19 := hide ((unhide V18).below hb)
  have B19 := hide (below_step (unhide B18) hb (by omega))
  clear hb A18 P18 S18 R18 X18 Q18 G18 V18 B18
  have ca0 := (unhide P19).cell 0
  have ca1 := (unhide P19).cell 1
  have ca2 := (unhide P19).cell 2
  simp at ca0 ca1 ca2
  have lca : w.heap.size < w19.heap.size := by omega
  go_wp2_with fail
  clear ca0 ca1 ca2 lca
  refine (toDevice_any _ _ _ _ _ _ D _ (unhide A19) k1 k2 k3).mono ?_
  rintro e w20 ⟨⟨y1, y2, y3, rfl, hO⟩, hb⟩
  have z20 : w19.heap.size ≤ w20.heap.size := hb.size
  have A20 := hide ((unhide A19).below hb)
  have P20 := hide ((unhide P19).below hb)
  have S20 := hide ((unhide S19).below hb)
  have R20 := hide ((unhide R19).below hb)
  have X20 := hide ((unhide X19).below hb)
  have Q20 := hide ((unhide Q19).below hb)
  have G20 := hide ((unhide G19).below hb)
  have V20 := hide ((unhide V19).below hb)
  have B20 := hide (below_step (unhide B19) hb (by omega))
  clear hb A19 P19 S19 R19 X19 Q19 G19 V19 B19
  have T221 := hide hO
  have LT2 := hide (fun q hq => OwnDev.lt (q := q) hO hq)
  clear hO
  go_wp2_with fail
  refine (implFlushLine_any _ _ _ _ _ _ D n _ (unhide T221).reads k1 k2 k3).mono ?_
  rintro e w22 ⟨⟨s1, s2, s3, rfl, hO⟩, hb⟩
  have z22 : w20.heap.size ≤ w22.heap.size := hb.size
  have A22 := hide ((unhide A20).below hb)
  have P22 := hide ((unhide P20).below hb)
  have S22 := hide ((unhide S20).below hb)
  have R22 := hide ((unhide R20).below hb)
  have X22 := hide ((unhide X20).below hb)
  have Q22 := hide ((unhide Q20).below hb)
  have G22 := hide ((unhide G20).below hb)
  have V22 := hide ((unhide V20).below hb)
  have T222 := hide ((unhide T221).below hb)
  have B22 := hide (below_step (unhide B20) hb (by omega))
  clear hb A20 P20 S20 R20 X20 Q20 G20 V20 T221 B20
  rw [unhide HDD] at hO
  obtain ⟨ah1, ch1, ah2, ch2, ah3, ch3, e1, e2, e3, -⟩ := hO.form
  subst e1 e2 e3
  rw [unhide HCD]
  have H23 := hide hO
  have LH := hide (fun q hq => OwnDev.lt (q := q) hO hq)
  clear hO
  have cr0 := (unhide R22).cell 0
  have cr1 := (unhide R22).cell 1
  have cr2 := (unhide R22).cell 2
  have cr3 := (unhide R22).cell 3
  simp at cr0 cr1 cr2 cr3
  have lcr : b7 < w22.heap.size := by omega
  go_wp2_with fail
  clear cr0 cr1 cr2 cr3 lcr
  obtain ⟨W24, hW, z24, hbx, hx⟩ := boxes1 w22 [.int .i64 cd, .slice ah1 DD.words.length ch1, .slice ah2 DD.flights.length ch2, .slice ah3 DD.over.length ch3] 35
  rw [← hW]
  clear hW
  have A24 := hide ((unhide A22).below (unhide hbx))
  have P24 := hide ((unhide P22).below (unhide hbx))
  have S24 := hide ((unhide S22).below (unhide hbx))
  have R24 := hide ((unhide R22).below (unhide hbx))
  have X24 := hide ((unhide X22).below (unhide hbx))
  have Q24 := hide ((unhide Q22).below (unhide hbx))
  have G24 := hide ((unhide G22).below (unhide hbx))
  have V24 := hide ((unhide V22).below (unhide hbx))
  have T224 := hide ((unhide T222).below (unhide hbx))
  have H24 := hide ((unhide H23).below (unhide hbx))
  have B24 := hide (below_step (unhide B22) (unhide hbx) (by omega))
  have Z24 := hx
  clear hbx hx A22 P22 S22 R22 X22 Q22 G22 V22 T222 H23 B22
  have u24 : w22.heap.size < W24.heap.size := by omega
  generalize w22.heap.size = b24 at *
  refine (eqDeviceResult_same cd _ _ _ _ _ _ _ _ _ _ _ _ DD _ (unhide H24).reads (unhide S24).r m1 m2 m3).mono ?_
  rintro e w25 ⟨rfl, hb⟩
  have z25 : W24.heap.size ≤ w25.heap.size := hb.size
  have A25 := hide ((unhide A24).below hb)
  have P25 := hide ((unhide P24).below hb)
  have S25 := hide ((unhide S24).below hb)
  have R25 := hide ((unhide R24).below hb)
  have X25 := hide ((unhide X24).below hb)
  have Q25 := hide ((unhide Q24).below hb)
  have G25 := hide ((unhide G24).below hb)
  have V25 := hide ((unhide V24).below hb)
  have T225 := hide ((unhide T224).below hb)
  have H25 := hide ((unhide H24).below hb)
  have Z25 := hide ((unhide Z24).below hb)
  have B25 := hide (below_step (unhide B24) hb (by omega))
  clear hb A24 P24 S24 R24 X24 Q24 G24 V24 T224 H24 Z24 B24
  have cv0 := (unhide V25).cell 0
  have cv1 := (unhide V25).cell 1
  have cv2 := (unhide V25).cell 2
  have cv3 := (unhide V25).cell 3
  simp at cv0 cv1 cv2 cv3
  have lcv : b13 < w25.heap.size := by omega
  go_wp2_with fail
  clear cv0 cv1 cv2 cv3 lcv
  refine (heldDeviceResult_any cd _ _ _ _ _ _ DD 1 _ (unhide G25).reads m1 m2 m3 (by omega) (by omega)).mono ?_
  rintro e w26 ⟨rfl, hb⟩
  have z26 : w25.heap.size ≤ w26.heap.size := hb.size
  have A26 := hide ((unhide A25).below hb)
  have P26 := hide ((unhide P25).below hb)
  have S26 := hide ((unhide S25).below hb)
  have R26 := hide ((unhide R25).below hb)
  have X26 := hide ((unhide X25).below hb)
  have Q26 := hide ((unhide Q25).below hb)
  have G26 := hide ((unhide G25).below hb)
  have V26 := hide ((unhide V25).below hb)
  have T226 := hide ((unhide T225).below hb)
  have H26 := hide ((unhide H25).below hb)
  have Z26 := hide ((unhide Z25).below hb)
  have B26 := hide (below_step (unhide B25) hb (by omega))
  clear hb A25 P25 S25 R25 X25 Q25 G25 V25 T225 H25 Z25 B25
  go_wp2_with fail
  go_ret
  exact ⟨rfl, unhide B26⟩
end Go.Proofs.Ytpngbpohopkkaaa.fnExactFlushLine
