/-
  The walk of laws.FnExactFormatActs: it returns true, and writes nothing that was there.
-/
import Derived.Test.YtdijmijipgnlgaaActResWalk
namespace Go.Proofs.Ytdijmijipgnlgaa.fnExactFormatActs
open Go.RowKit
set_option linter.unusedVariables false

set_option maxHeartbeats 2000000 in
theorem walk (n : Int) (w : World) (_w0 : (Lit.int .i64 n).wf = true) :
    Calls Try.prog 9 #[.int .i64 n] w fun e w' => e = .returned (.bool true) ∧ Below w.heap.size w w' := by
  have k1 : (fmtList n).length ≤ 1048576 := Nat.le_trans (fmtList_length n) (by decide)
  go_enter Try.func9, Try.ntmps9
  go_wp2_with fail
  refine (specFormatActs_any n _).mono ?_
  rintro e w1 ⟨⟨aq, cq, rfl, hO⟩, hb⟩
  have z1 : w.heap.size ≤ w1.heap.size := hb.size
  have B1 := hide hb
  clear hb
  generalize hcd : fmtCode n = cd at *
  have HCD := hide hcd
  clear hcd
  generalize hL : fmtList n = L at *
  have HL := hide hL
  clear hL
  have S2 := hide hO
  have LS := hide (fun q hq => hO.lt q hq)
  clear hO
  go_wp2_with fail
  obtain ⟨W3, hW, z3, hbx, hx⟩ := boxes1 w1 [.int .i64 cd, .slice aq L.length cq] 88
  rw [← hW]
  clear hW
  have S3 := hide (own_below (unhide S2) (unhide hbx))
  have B3 := hide (below_step (unhide B1) (unhide hbx) (by omega))
  have R3 := hx
  clear hbx hx S2 B1
  have u3 : w1.heap.size < W3.heap.size := by omega
  generalize w1.heap.size = b3 at *
  refine (implFormatActs_any n _).mono ?_
  rintro e w4 ⟨⟨ag, cg, rfl, hO⟩, hb⟩
  have z4 : W3.heap.size ≤ w4.heap.size := hb.size
  have S4 := hide (own_below (unhide S3) hb)
  have R4 := hide ((unhide R3).below hb)
  have B4 := hide (below_step (unhide B3) hb (by omega))
  clear hb S3 R3 B3
  rw [unhide HL] at hO
  rw [unhide HCD, unhide HL]
  have G5 := hide hO
  have LG := hide (fun q hq => hO.lt q hq)
  clear hO
  have cr0 := (unhide R4).cell 0
  have cr1 := (unhide R4).cell 1
  simp at cr0 cr1
  have lcr : b3 < w4.heap.size := by omega
  go_wp2_with fail
  clear cr0 cr1 lcr
  obtain ⟨W6, hW, z6, hbx, hx⟩ := boxes1 w4 [.int .i64 cd, .slice ag L.length cg] 88
  rw [← hW]
  clear hW
  have S6 := hide (own_below (unhide S4) (unhide hbx))
  have R6 := hide ((unhide R4).below (unhide hbx))
  have G6 := hide (own_below (unhide G5) (unhide hbx))
  have B6 := hide (below_step (unhide B4) (unhide hbx) (by omega))
  have V6 := hx
  clear hbx hx S4 R4 G5 B4
  have u6 : w4.heap.size < W6.heap.size := by omega
  generalize w4.heap.size = b6 at *
  refine (eqActsResult_same cd _ _ _ _ L _ (tripsAt_slice (unhide G6)) (tripsAt_slice (unhide S6)) k1).mono ?_
  rintro e w7 ⟨rfl, hb⟩
  have z7 : W6.heap.size ≤ w7.heap.size := hb.size
  have S7 := hide (own_below (unhide S6) hb)
  have R7 := hide ((unhide R6).below hb)
  have G7 := hide (own_below (unhide G6) hb)
  have V7 := hide ((unhide V6).below hb)
  have B7 := hide (below_step (unhide B6) hb (by omega))
  clear hb S6 R6 G6 V6 B6
  have cv0 := (unhide V7).cell 0
  have cv1 := (unhide V7).cell 1
  simp at cv0 cv1
  have lcv : b6 < w7.heap.size := by omega
  go_wp2_with fail
  clear cv0 cv1 lcv
  refine (markActsResult_any cd _ L.length _ _ 1 _ (unhide G7) k1 (by omega) (by omega)).mono ?_
  rintro e w8 ⟨rfl, hO, ho⟩
  have z8 : w7.heap.size ≤ w8.heap.size := ho.size
  have S8 := hide (ho.own (unhide S7) (fun q hq h => by have h2 := unhide LG _ h; have h1 := unhide LS _ hq; omega))
  have R8 := hide ((unhide R7).out ho (fun h => by have h2 := unhide LG _ h; omega))
  have V8 := hide ((unhide V7).out ho (fun h => by have h2 := unhide LG _ h; omega))
  have B8 := hide (ho.below (unhide B7) (Nat.le_refl _) (fun q hq h => by have h2 := unhide LG _ h; omega))
  have G8 := hide hO
  clear ho hO S7 R7 V7 B7 G7
  have cv0 := (unhide V8).cell 0
  have cv1 := (unhide V8).cell 1
  simp at cv0 cv1
  have lcv : b6 < w8.heap.size := by omega
  have kk : ¬ (1 + 3 * (L.length : Int)) < 0 := by omega
  have kn := int_neq_self (1 + 3 * (L.length : Int))
  go_wp2_with fail
  clear cv0 cv1 lcv
  refine (heldActsResult_any cd _ _ L.length 1 _ (tripsAt_slice (unhide G8)) k1 (by omega) (by omega)).mono ?_
  rintro e w9 ⟨rfl, hb⟩
  have z9 : w8.heap.size ≤ w9.heap.size := hb.size
  have S9 := hide (own_below (unhide S8) hb)
  have R9 := hide ((unhide R8).below hb)
  have G9 := hide (own_below (unhide G8) hb)
  have V9 := hide ((unhide V8).below hb)
  have B9 := hide (below_step (unhide B8) hb (by omega))
  clear hb S8 R8 G8 V8 B8
  go_wp2_with fail
  refine (implFormatActs_any n _).mono ?_
  rintro e w10 ⟨⟨ah, ch, rfl, hO⟩, hb⟩
  have z10 : w9.heap.size ≤ w10.heap.size := hb.size
  have S10 := hide (own_below (unhide S9) hb)
  have R10 := hide ((unhide R9).below hb)
  have G10 := hide (own_below (unhide G9) hb)
  have V10 := hide ((unhide V9).below hb)
  have B10 := hide (below_step (unhide B9) hb (by omega))
  clear hb S9 R9 G9 V9 B9
  rw [unhide HL] at hO
  rw [unhide HCD, unhide HL]
  have H11 := hide hO
  have LH := hide (fun q hq => hO.lt q hq)
  clear hO
  have cr0 := (unhide R10).cell 0
  have cr1 := (unhide R10).cell 1
  simp at cr0 cr1
  have lcr : b3 < w10.heap.size := by omega
  go_wp2_with fail
  clear cr0 cr1 lcr
  obtain ⟨W12, hW, z12, hbx, hx⟩ := boxes1 w10 [.int .i64 cd, .slice ah L.length ch] 88
  rw [← hW]
  clear hW
  have S12 := hide (own_below (unhide S10) (unhide hbx))
  have R12 := hide ((unhide R10).below (unhide hbx))
  have G12 := hide (own_below (unhide G10) (unhide hbx))
  have V12 := hide ((unhide V10).below (unhide hbx))
  have H12 := hide (own_below (unhide H11) (unhide hbx))
  have B12 := hide (below_step (unhide B10) (unhide hbx) (by omega))
  have Z12 := hx
  clear hbx hx S10 R10 G10 V10 H11 B10
  have u12 : w10.heap.size < W12.heap.size := by omega
  generalize w10.heap.size = b12 at *
  refine (eqActsResult_same cd _ _ _ _ L _ (tripsAt_slice (unhide H12)) (tripsAt_slice (unhide S12)) k1).mono ?_
  rintro e w13 ⟨rfl, hb⟩
  have z13 : W12.heap.size ≤ w13.heap.size := hb.size
  have S13 := hide (own_below (unhide S12) hb)
  have R13 := hide ((unhide R12).below hb)
  have G13 := hide (own_below (unhide G12) hb)
  have V13 := hide ((unhide V12).below hb)
  have H13 := hide (own_below (unhide H12) hb)
  have Z13 := hide ((unhide Z12).below hb)
  have B13 := hide (below_step (unhide B12) hb (by omega))
  clear hb S12 R12 G12 V12 H12 Z12 B12
  have cv0 := (unhide V13).cell 0
  have cv1 := (unhide V13).cell 1
  simp at cv0 cv1
  have lcv : b6 < w13.heap.size := by omega
  go_wp2_with fail
  clear cv0 cv1 lcv
  refine (heldActsResult_any cd _ _ L.length 1 _ (tripsAt_slice (unhide G13)) k1 (by omega) (by omega)).mono ?_
  rintro e w14 ⟨rfl, hb⟩
  have z14 : w13.heap.size ≤ w14.heap.size := hb.size
  have S14 := hide (own_below (unhide S13) hb)
  have R14 := hide ((unhide R13).below hb)
  have G14 := hide (own_below (unhide G13) hb)
  have V14 := hide ((unhide V13).below hb)
  have H14 := hide (own_below (unhide H13) hb)
  have Z14 := hide ((unhide Z13).below hb)
  have B14 := hide (below_step (unhide B13) hb (by omega))
  clear hb S13 R13 G13 V13 H13 Z13 B13
  go_wp2_with fail
  go_ret
  exact ⟨rfl, unhide B14⟩
end Go.Proofs.Ytdijmijipgnlgaa.fnExactFormatActs
