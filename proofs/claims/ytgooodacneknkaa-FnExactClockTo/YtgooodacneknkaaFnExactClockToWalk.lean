/-
  The walk of laws.FnExactClockTo: it returns true, and writes nothing that was there.
-/
import Derived.Test.YtgooodacneknkaaClockToWalk
import Derived.Test.YtgooodacneknkaaImgResWalk
import Derived.Test.YtgooodacneknkaaOpenDev
namespace Go.Proofs.Ytgooodacneknkaa.fnExactClockTo
open Go.RowKit
set_option linter.unusedVariables false

set_option maxHeartbeats 4000000 in
theorem walk (a : Option Addr) (c : Nat) (l : List Int) (e : Int) (w : World) (h : IntsAt w a l) (hn : l.length ≤ maxLen) (we : (Lit.int .i64 e).wf = true) :
    Calls Try.prog 4 #[.slice a l.length c, .int .i64 e] w fun e w' => e = .returned (.bool true) ∧ Below w.heap.size w w' := by
  clear we
  unfold maxLen at hn
  by_cases hbig : 1048576 < (l.length : Int)
  · go_enter Try.func4, Try.ntmps4
    go_wp2
    go_ret
    exact ⟨rfl, Below.refl _ _⟩
  have hl : l.length ≤ 1048576 := by omega
  have hwl : (ctWords l e).length ≤ 1048576 := ctWords_len l e hl
  have AZ := hide h
  clear h
  go_enter Try.func4, Try.ntmps4
  go_wp2_with fail
  refine (toInt64S_ex a c l _ (unhide AZ) hl).mono ?_
  rintro e w1 ⟨⟨gt, rfl, hx⟩, hb⟩
  have z1 : w.heap.size ≤ w1.heap.size := hb.size
  have A1 := hide ((unhide AZ).below hb)
  have B1 := hide hb
  clear hb
  have T2 := hide hx
  have LT := hide (fun q hq => World.ownsRow.lt hx q hq)
  clear hx
  go_wp2_with fail
  refine (specClockTo_any _ _ l e _ (intsAt_own1 (unhide T2)) hl).mono ?_
  rintro e w3 ⟨⟨vs, rfl, ho⟩, hb⟩
  have z3 : w1.heap.size ≤ w3.heap.size := hb.size
  have A3 := hide ((unhide A1).below hb)
  have T3 := hide (own_below (unhide T2) hb)
  have B3 := hide (below_step (unhide B1) hb (by omega))
  clear hb A1 T2 B1
  obtain ⟨a1, c1, rfl, -, -, -, -⟩ := intsAt_own ho
  have S4 := hide ho
  have LS := hide (fun q hq => World.ownsRow.lt ho q hq)
  clear ho
  go_wp2_with fail
  obtain ⟨W5, hW, z5, hbx, hx⟩ := boxes1 w3 [.int .i64 (ctCode l e), .slice a1 (ctWords l e).length c1] 30
  rw [← hW]
  clear hW
  have A5 := hide ((unhide A3).below (unhide hbx))
  have S5 := hide (own_below (unhide S4) (unhide hbx))
  have B5 := hide (below_step (unhide B3) (unhide hbx) (by omega))
  have R5 := hx
  clear hbx hx A3 S4 B3
  have u5 : w3.heap.size < W5.heap.size := by omega
  generalize w3.heap.size = b5 at *
  refine (toInt64S_ex a c l _ (unhide A5) hl).mono ?_
  rintro e w6 ⟨⟨gx, rfl, hx⟩, hb⟩
  have z6 : W5.heap.size ≤ w6.heap.size := hb.size
  have A6 := hide ((unhide A5).below hb)
  have S6 := hide (own_below (unhide S5) hb)
  have R6 := hide ((unhide R5).below hb)
  have B6 := hide (below_step (unhide B5) hb (by omega))
  clear hb A5 S5 R5 B5
  have X7 := hide hx
  have LX := hide (fun q hq => World.ownsRow.lt hx q hq)
  clear hx
  go_wp2_with fail
  refine (implClockTo_any _ _ l e _ (intsAt_own1 (unhide X7)) hl).mono ?_
  rintro e w8 ⟨⟨vg, rfl, ho⟩, hb⟩
  have z8 : w6.heap.size ≤ w8.heap.size := hb.size
  have A8 := hide ((unhide A6).below hb)
  have S8 := hide (own_below (unhide S6) hb)
  have R8 := hide ((unhide R6).below hb)
  have X8 := hide (own_below (unhide X7) hb)
  have B8 := hide (below_step (unhide B6) hb (by omega))
  clear hb A6 S6 R6 X7 B6
  obtain ⟨a2, c2, rfl, -, -, -, -⟩ := intsAt_own ho
  have G9 := hide ho
  have LG := hide (fun q hq => World.ownsRow.lt ho q hq)
  clear ho
  have cr0 := (unhide R8).cell 0
  have cr1 := (unhide R8).cell 1
  simp at cr0 cr1
  have lcr : b5 < w8.heap.size := by omega
  go_wp2_with fail
  clear cr0 cr1 lcr
  obtain ⟨W10, hW, z10, hbx, hx⟩ := boxes1 w8 [.int .i64 (ctCode l e), .slice a2 (ctWords l e).length c2] 30
  rw [← hW]
  clear hW
  have A10 := hide ((unhide A8).below (unhide hbx))
  have S10 := hide (own_below (unhide S8) (unhide hbx))
  have R10 := hide ((unhide R8).below (unhide hbx))
  have X10 := hide (own_below (unhide X8) (unhide hbx))
  have G10 := hide (own_below (unhide G9) (unhide hbx))
  have B10 := hide (below_step (unhide B8) (unhide hbx) (by omega))
  have V10 := hx
  clear hbx hx A8 S8 R8 X8 G9 B8
  have u10 : w8.heap.size < W10.heap.size := by omega
  generalize w8.heap.size = b10 at *
  refine (eqImageResult_same (ctCode l e) _ _ _ _ (ctWords l e) _ (intsAt_own1 (unhide G10)) (intsAt_own1 (unhide S10)) hwl).mono ?_
  rintro e w11 ⟨rfl, hb⟩
  have z11 : W10.heap.size ≤ w11.heap.size := hb.size
  have A11 := hide ((unhide A10).below hb)
  have S11 := hide (own_below (unhide S10) hb)
  have R11 := hide ((unhide R10).below hb)
  have X11 := hide (own_below (unhide X10) hb)
  have G11 := hide (own_below (unhide G10) hb)
  have V11 := hide ((unhide V10).below hb)
  have B11 := hide (below_step (unhide B10) hb (by omega))
  clear hb A10 S10 R10 X10 G10 V10 B10
  go_wp2_with fail
  refine (toInt64S_ex a c l _ (unhide A11) hl).mono ?_
  rintro e w12 ⟨⟨gy, rfl, hx⟩, hb⟩
  have z12 : w11.heap.size ≤ w12.heap.size := hb.size
  have A12 := hide ((unhide A11).below hb)
  have S12 := hide (own_below (unhide S11) hb)
  have R12 := hide ((unhide R11).below hb)
  have X12 := hide (own_below (unhide X11) hb)
  have G12 := hide (own_below (unhide G11) hb)
  have V12 := hide ((unhide V11).below hb)
  have B12 := hide (below_step (unhide B11) hb (by omega))
  clear hb A11 S11 R11 X11 G11 V11 B11
  have Y13 := hide hx
  have LY := hide (fun q hq => World.ownsRow.lt hx q hq)
  clear hx
  go_wp2_with fail
  refine (eqInt64S_same _ _ _ _ l _ (intsAt_own1 (unhide X12)) (intsAt_own1 (unhide Y13)) hl).mono ?_
  rintro e w14 ⟨rfl, hb⟩
  have z14 : w12.heap.size ≤ w14.heap.size := hb.size
  have A14 := hide ((unhide A12).below hb)
  have S14 := hide (own_below (unhide S12) hb)
  have R14 := hide ((unhide R12).below hb)
  have X14 := hide (own_below (unhide X12) hb)
  have G14 := hide (own_below (unhide G12) hb)
  have V14 := hide ((unhide V12).below hb)
  have Y14 := hide (own_below (unhide Y13) hb)
  have B14 := hide (below_step (unhide B12) hb (by omega))
  clear hb A12 S12 R12 X12 G12 V12 Y13 B12
  go_wp2_with fail
  refine (markInt64S_any _ l.length _ _ 1 _ (unhide X14) hl (by omega) (by omega)).mono ?_
  rintro e w15 ⟨rfl, hO, ho⟩
  have z15 : w14.heap.size ≤ w15.heap.size := ho.size
  have S15 := hide (ho.own (unhide S14) (fun q hq h => by have h2 := unhide LX _ h; have h1 := unhide LS _ hq; omega))
  have R15 := hide ((unhide R14).out ho (fun h => by have h2 := unhide LX _ h; omega))
  have G15 := hide (ho.own (unhide G14) (fun q hq h => by have h2 := unhide LX _ h; have h1 := unhide LG _ hq; omega))
  have V15 := hide ((unhide V14).out ho (fun h => by have h2 := unhide LX _ h; omega))
  have Y15 := hide (ho.own (unhide Y14) (fun q hq h => by have h2 := unhide LX _ h; have h1 := unhide LY _ hq; omega))
  have B15 := hide (ho.below (unhide B14) (Nat.le_refl _) (fun q hq h => by have h2 := unhide LX _ h; omega))
  have A15 := hide ((unhide AZ).below (unhide B15))
  have X15 := hide hO
  clear ho hO S14 R14 G14 V14 Y14 B14 A14 X14
  have cv0 := (unhide V15).cell 0
  have cv1 := (unhide V15).cell 1
  simp at cv0 cv1
  have lcv : b10 < w15.heap.size := by omega
  have cr0 := (unhide R15).cell 0
  have cr1 := (unhide R15).cell 1
  simp at cr0 cr1
  have lcr : b5 < w15.heap.size := by omega
  have kd : ¬ (1 : Int) + (l.length : Int) < 0 := by omega
  go_wp2_with fail
  clear cv0 cv1 lcv cr0 cr1 lcr
  refine (eqImageResult_same (ctCode l e) _ _ _ _ (ctWords l e) _ (intsAt_own1 (unhide G15)) (intsAt_own1 (unhide S15)) hwl).mono ?_
  rintro e w16 ⟨rfl, hb⟩
  have z16 : w15.heap.size ≤ w16.heap.size := hb.size
  have A16 := hide ((unhide A15).below hb)
  have S16 := hide (own_below (unhide S15) hb)
  have R16 := hide ((unhide R15).below hb)
  have X16 := hide (own_below (unhide X15) hb)
  have G16 := hide (own_below (unhide G15) hb)
  have V16 := hide ((unhide V15).below hb)
  have Y16 := hide (own_below (unhide Y15) hb)
  have B16 := hide (below_step (unhide B15) hb (by omega))
  clear hb A15 S15 R15 X15 G15 V15 Y15 B15
  have cv0 := (unhide V16).cell 0
  have cv1 := (unhide V16).cell 1
  simp at cv0 cv1
  have lcv : b10 < w16.heap.size := by omega
  go_wp2_with fail
  clear cv0 cv1 lcv
  refine (markImageResult_any (ctCode l e) _ _ (ctWords l e).length _ _ 1 _ (unhide G16) hwl (by omega) (by omega)).mono ?_
  rintro e w17 ⟨rfl, hO, ho⟩
  have z17 : w16.heap.size ≤ w17.heap.size := ho.size
  have S17 := hide (ho.own (unhide S16) (fun q hq h => by have h2 := unhide LG _ h; have h1 := unhide LS _ hq; omega))
  have R17 := hide ((unhide R16).out ho (fun h => by have h2 := unhide LG _ h; omega))
  have X17 := hide (ho.own (unhide X16) (fun q hq h => by have h2 := unhide LG _ h; have h1 := unhide LX _ hq; omega))
  have V17 := hide ((unhide V16).out ho (fun h => by have h2 := unhide LG _ h; omega))
  have Y17 := hide (ho.own (unhide Y16) (fun q hq h => by have h2 := unhide LG _ h; have h1 := unhide LY _ hq; omega))
  have B17 := hide (ho.below (unhide B16) (Nat.le_refl _) (fun q hq h => by have h2 := unhide LG _ h; omega))
  have A17 := hide ((unhide AZ).below (unhide B17))
  have G17 := hide hO
  clear ho hO S16 R16 X16 V16 Y16 B16 A16 G16
  have cv0 := (unhide V17).cell 0
  have cv1 := (unhide V17).cell 1
  simp at cv0 cv1
  have lcv : b10 < w17.heap.size := by omega
  have kk : ¬ (1 : Int) + ((ctWords l e).length : Int) < 0 := by omega
  have kn := int_neq_self ((1 : Int) + ((ctWords l e).length : Int))
  go_wp2_with fail
  clear cv0 cv1 lcv
  refine (heldImageResult_any (ctCode l e) _ _ (ctWords l e).length 1 _ (intsAt_own1 (unhide G17)) hwl (by omega) (by omega)).mono ?_
  rintro e w18 ⟨rfl, hb⟩
  have z18 : w17.heap.size ≤ w18.heap.size := hb.size
  have A18 := hide ((unhide A17).below hb)
  have S18 := hide (own_below (unhide S17) hb)
  have R18 := hide ((unhide R17).below hb)
  have X18 := hide (own_below (unhide X17) hb)
  have G18 := hide (own_below (unhide G17) hb)
  have V18 := hide ((unhide V17).below hb)
  have Y18 := hide (own_below (unhide Y17) hb)
  have B18 := hide (below_step (unhide B17) hb (by omega))
  clear hb A17 S17 R17 X17 G17 V17 Y17 B17
  go_wp2_with fail
  refine (toInt64S_ex a c l _ (unhide A18) hl).mono ?_
  rintro e w19 ⟨⟨gu, rfl, hx⟩, hb⟩
  have z19 : w18.heap.size ≤ w19.heap.size := hb.size
  have A19 := hide ((unhide A18).below hb)
  have S19 := hide (own_below (unhide S18) hb)
  have R19 := hide ((unhide R18).below hb)
  have X19 := hide (own_below (unhide X18) hb)
  have G19 := hide (own_below (unhide G18) hb)
  have V19 := hide ((unhide V18).below hb)
  have Y19 := hide (own_below (unhide Y18) hb)
  have B19 := hide (below_step (unhide B18) hb (by omega))
  clear hb A18 S18 R18 X18 G18 V18 Y18 B18
  have T220 := hide hx
  have LT2 := hide (fun q hq => World.ownsRow.lt hx q hq)
  clear hx
  go_wp2_with fail
  refine (implClockTo_any _ _ l e _ (intsAt_own1 (unhide T220)) hl).mono ?_
  rintro e w21 ⟨⟨vh, rfl, ho⟩, hb⟩
  have z21 : w19.heap.size ≤ w21.heap.size := hb.size
  have A21 := hide ((unhide A19).below hb)
  have S21 := hide (own_below (unhide S19) hb)
  have R21 := hide ((unhide R19).below hb)
  have X21 := hide (own_below (unhide X19) hb)
  have G21 := hide (own_below (unhide G19) hb)
  have V21 := hide ((unhide V19).below hb)
  have Y21 := hide (own_below (unhide Y19) hb)
  have T221 := hide (own_below (unhide T220) hb)
  have B21 := hide (below_step (unhide B19) hb (by omega))
  clear hb A19 S19 R19 X19 G19 V19 Y19 T220 B19
  obtain ⟨a3, c3, rfl, -, -, -, -⟩ := intsAt_own ho
  have H22 := hide ho
  have LH := hide (fun q hq => World.ownsRow.lt ho q hq)
  clear ho
  have cr0 := (unhide R21).cell 0
  have cr1 := (unhide R21).cell 1
  simp at cr0 cr1
  have lcr : b5 < w21.heap.size := by omega
  go_wp2_with fail
  clear cr0 cr1 lcr
  obtain ⟨W23, hW, z23, hbx, hx⟩ := boxes1 w21 [.int .i64 (ctCode l e), .slice a3 (ctWords l e).length c3] 30
  rw [← hW]
  clear hW
  have A23 := hide ((unhide A21).below (unhide hbx))
  have S23 := hide (own_below (unhide S21) (unhide hbx))
  have R23 := hide ((unhide R21).below (unhide hbx))
  have X23 := hide (own_below (unhide X21) (unhide hbx))
  have G23 := hide (own_below (unhide G21) (unhide hbx))
  have V23 := hide ((unhide V21).below (unhide hbx))
  have Y23 := hide (own_below (unhide Y21) (unhide hbx))
  have T223 := hide (own_below (unhide T221) (unhide hbx))
  have H23 := hide (own_below (unhide H22) (unhide hbx))
  have B23 := hide (below_step (unhide B21) (unhide hbx) (by omega))
  have Z23 := hx
  clear hbx hx A21 S21 R21 X21 G21 V21 Y21 T221 H22 B21
  have u23 : w21.heap.size < W23.heap.size := by omega
  generalize w21.heap.size = b23 at *
  refine (eqImageResult_same (ctCode l e) _ _ _ _ (ctWords l e) _ (intsAt_own1 (unhide H23)) (intsAt_own1 (unhide S23)) hwl).mono ?_
  rintro e w24 ⟨rfl, hb⟩
  have z24 : W23.heap.size ≤ w24.heap.size := hb.size
  have A24 := hide ((unhide A23).below hb)
  have S24 := hide (own_below (unhide S23) hb)
  have R24 := hide ((unhide R23).below hb)
  have X24 := hide (own_below (unhide X23) hb)
  have G24 := hide (own_below (unhide G23) hb)
  have V24 := hide ((unhide V23).below hb)
  have Y24 := hide (own_below (unhide Y23) hb)
  have T224 := hide (own_below (unhide T223) hb)
  have H24 := hide (own_below (unhide H23) hb)
  have Z24 := hide ((unhide Z23).below hb)
  have B24 := hide (below_step (unhide B23) hb (by omega))
  clear hb A23 S23 R23 X23 G23 V23 Y23 T223 H23 Z23 B23
  have cv0 := (unhide V24).cell 0
  have cv1 := (unhide V24).cell 1
  simp at cv0 cv1
  have lcv : b10 < w24.heap.size := by omega
  go_wp2_with fail
  clear cv0 cv1 lcv
  refine (heldImageResult_any (ctCode l e) _ _ (ctWords l e).length 1 _ (intsAt_own1 (unhide G24)) hwl (by omega) (by omega)).mono ?_
  rintro e w25 ⟨rfl, hb⟩
  have z25 : w24.heap.size ≤ w25.heap.size := hb.size
  have A25 := hide ((unhide A24).below hb)
  have S25 := hide (own_below (unhide S24) hb)
  have R25 := hide ((unhide R24).below hb)
  have X25 := hide (own_below (unhide X24) hb)
  have G25 := hide (own_below (unhide G24) hb)
  have V25 := hide ((unhide V24).below hb)
  have Y25 := hide (own_below (unhide Y24) hb)
  have T225 := hide (own_below (unhide T224) hb)
  have H25 := hide (own_below (unhide H24) hb)
  have Z25 := hide ((unhide Z24).below hb)
  have B25 := hide (below_step (unhide B24) hb (by omega))
  clear hb A24 S24 R24 X24 G24 V24 Y24 T224 H24 Z24 B24
  go_wp2_with fail
  go_ret
  exact ⟨rfl, unhide B25⟩
end Go.Proofs.Ytgooodacneknkaa.fnExactClockTo
