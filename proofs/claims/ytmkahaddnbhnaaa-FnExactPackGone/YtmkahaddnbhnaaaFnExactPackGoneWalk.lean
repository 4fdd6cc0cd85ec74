/-
  The walk of laws.FnExactPackGone: it returns true, and writes nothing that was there.
-/
import Derived.Test.YtmkahaddnbhnaaaIPackWalk
import Derived.Test.YtmkahaddnbhnaaaSPackWalk
import Derived.Test.YtmkahaddnbhnaaaResWalk
namespace Go.Proofs.Ytmkahaddnbhnaaa.fnExactPackGone
open Go.RowKit
set_option linter.unusedVariables false

set_option maxHeartbeats 4000000 in
theorem walk (u e : Int) (w : World) (w0 : (Lit.int .i64 u).wf = true) (w1 : (Lit.int .i64 e).wf = true) :
    Calls Try.prog 9 #[.int .i64 u, .int .i64 e] w fun e w' => e = .returned (.bool true) ∧ Below w.heap.size w w' := by
  clear w0 w1
  have hwl : (goneWords u e).length ≤ 1048576 := goneWords_len u e
  go_enter Try.func9, Try.ntmps9
  go_wp2_with fail
  refine (specPackGone_any u e _).mono ?_
  rintro e w1 ⟨⟨vs, rfl, ho⟩, hb⟩
  have z1 : w.heap.size ≤ w1.heap.size := hb.size
  have B1 := hide hb
  clear hb
  obtain ⟨a1, c1, rfl, -, -, -, -⟩ := intsAt_own ho
  have S2 := hide ho
  have LS := hide (fun q hq => World.ownsRow.lt ho q hq)
  clear ho
  go_wp2_with fail
  obtain ⟨W3, hW, z3, hbx, hx⟩ := boxes1 w1 [.int .i64 (goneCode u e), .slice a1 (goneWords u e).length c1] 30
  rw [← hW]
  clear hW
  have S3 := hide (own_below (unhide S2) (unhide hbx))
  have B3 := hide (below_step (unhide B1) (unhide hbx) (by omega))
  have R3 := hx
  clear hbx hx S2 B1
  have u3 : w1.heap.size < W3.heap.size := by omega
  generalize w1.heap.size = b3 at *
  refine (implPackGone_any u e _).mono ?_
  rintro e w4 ⟨⟨vg, rfl, ho⟩, hb⟩
  have z4 : W3.heap.size ≤ w4.heap.size := hb.size
  have S4 := hide (own_below (unhide S3) hb)
  have R4 := hide ((unhide R3).below hb)
  have B4 := hide (below_step (unhide B3) hb (by omega))
  clear hb S3 R3 B3
  obtain ⟨a2, c2, rfl, -, -, -, -⟩ := intsAt_own ho
  have G5 := hide ho
  have LG := hide (fun q hq => World.ownsRow.lt ho q hq)
  clear ho
  have cr0 := (unhide R4).cell 0
  have cr1 := (unhide R4).cell 1
  simp at cr0 cr1
  have lcr : b3 < w4.heap.size := by omega
  go_wp2_with fail
  clear cr0 cr1 lcr
  obtain ⟨W6, hW, z6, hbx, hx⟩ := boxes1 w4 [.int .i64 (goneCode u e), .slice a2 (goneWords u e).length c2] 30
  rw [← hW]
  clear hW
  have S6 := hide (own_below (unhide S4) (unhide hbx))
  have R6 := hide ((unhide R4).below (unhide hbx))
  have G6 := hide (own_below (unhide G5) (unhide hbx))
  have B6 := hide (below_step (unhide B4) (unhide hbx) (by omega))
  have V6 := hx
  clear hbx hx S4 R4 G5 B4
  have u6 : w4.heap.size < W6.heap.size := by omega
  generalize w4.heap.size = b6 at *
  refine (eqWordsResult_same (goneCode u e) _ _ _ _ (goneWords u e) _ (intsAt_own1 (unhide G6)) (intsAt_own1 (unhide S6)) hwl).mono ?_
  rintro e w7 ⟨rfl, hb⟩
  have z7 : W6.heap.size ≤ w7.heap.size := hb.size
  have S7 := hide (own_below (unhide S6) hb)
  have R7 := hide ((unhide R6).below hb)
  have G7 := hide (own_below (unhide G6) hb)
  have V7 := hide ((unhide V6).below hb)
  have B7 := hide (below_step (unhide B6) hb (by omega))
  clear hb S6 R6 G6 V6 B6
  have cv0 := (unhide V7).cell 0
  have cv1 := (unhide V7).cell 1
  simp at cv0 cv1
  have lcv : b6 < w7.heap.size := by omega
  go_wp2_with fail
  clear cv0 cv1 lcv
  refine (markWordsResult_any (goneCode u e) _ _ (goneWords u e).length _ _ 1 _ (unhide G7) hwl (by omega) (by omega)).mono ?_
  rintro e w8 ⟨rfl, hO, ho⟩
  have z8 : w7.heap.size ≤ w8.heap.size := ho.size
  have S8 := hide (ho.own (unhide S7) (fun q hq h => by have h2 := unhide LG _ h; have h1 := unhide LS _ hq; omega))
  have R8 := hide ((unhide R7).out ho (fun h => by have h2 := unhide LG _ h; omega))
  have V8 := hide ((unhide V7).out ho (fun h => by have h2 := unhide LG _ h; omega))
  have B8 := hide (ho.below (unhide B7) (Nat.le_refl _) (fun q hq h => by have h2 := unhide LG _ h; omega))
  have G8 := hide hO
  clear ho hO S7 R7 V7 B7 G7
  have cv0 := (unhide V8).cell 0
  have cv1 := (unhide V8).cell 1
  simp at cv0 cv1
  have lcv : b6 < w8.heap.size := by omega
  have kk : ¬ (1 : Int) + ((goneWords u e).length : Int) < 0 := by omega
  have kn := int_neq_self ((1 : Int) + ((goneWords u e).length : Int))
  go_wp2_with fail
  clear cv0 cv1 lcv
  refine (heldWordsResult_any (goneCode u e) _ _ (goneWords u e).length 1 _ (intsAt_own1 (unhide G8)) hwl (by omega) (by omega)).mono ?_
  rintro e w9 ⟨rfl, hb⟩
  have z9 : w8.heap.size ≤ w9.heap.size := hb.size
  have S9 := hide (own_below (unhide S8) hb)
  have R9 := hide ((unhide R8).below hb)
  have G9 := hide (own_below (unhide G8) hb)
  have V9 := hide ((unhide V8).below hb)
  have B9 := hide (below_step (unhide B8) hb (by omega))
  clear hb S8 R8 G8 V8 B8
  go_wp2_with fail
  refine (implPackGone_any u e _).mono ?_
  rintro e w10 ⟨⟨vh, rfl, ho⟩, hb⟩
  have z10 : w9.heap.size ≤ w10.heap.size := hb.size
  have S10 := hide (own_below (unhide S9) hb)
  have R10 := hide ((unhide R9).below hb)
  have G10 := hide (own_below (unhide G9) hb)
  have V10 := hide ((unhide V9).below hb)
  have B10 := hide (below_step (unhide B9) hb (by omega))
  clear hb S9 R9 G9 V9 B9
  obtain ⟨a3, c3, rfl, -, -, -, -⟩ := intsAt_own ho
  have H11 := hide ho
  have LH := hide (fun q hq => World.ownsRow.lt ho q hq)
  clear ho
  have cr0 := (unhide R10).cell 0
  have cr1 := (unhide R10).cell 1
  simp at cr0 cr1
  have lcr : b3 < w10.heap.size := by omega
  go_wp2_with fail
  clear cr0 cr1 lcr
  obtain ⟨W12, hW, z12, hbx, hx⟩ := boxes1 w10 [.int .i64 (goneCode u e), .slice a3 (goneWords u e).length c3] 30
  rw [← hW]
  clear hW
  have S12 := hide (own_below (unhide S10) (unhide hbx))
  have R12 := hide ((unhide R10).below (unhide hbx))
  have G12 := hide (own_below (unhide G10) (unhide hbx))
  have V12 := hide ((unhide V10).below (unhide hbx))
  have H12 := hide (own_below (unhide H11) (unhide hbx))
  have B12 := hide (below_step (unhide B10) (unhide hbx) (by omega))
  have Z12 := hx
  clear hbx hx S10 R10 G10 V10 H11 B10
  have u12 : w10.heap.size < W12.heap.size := by omega
  generalize w10.heap.size = b12 at *
  refine (eqWordsResult_same (goneCode u e) _ _ _ _ (goneWords u e) _ (intsAt_own1 (unhide H12)) (intsAt_own1 (unhide S12)) hwl).mono ?_
  rintro e w13 ⟨rfl, hb⟩
  have z13 : W12.heap.size ≤ w13.heap.size := hb.size
  have S13 := hide (own_below (unhide S12) hb)
  have R13 := hide ((unhide R12).below hb)
  have G13 := hide (own_below (unhide G12) hb)
  have V13 := hide ((unhide V12).below hb)
  have H13 := hide (own_below (unhide H12) hb)
  have Z13 := hide ((unhide Z12).below hb)
  have B13 := hide (below_step (unhide B12) hb (by omega))
  clear hb S12 R12 G12 V12 H12 Z12 B12
  have cv0 := (unhide V13).cell 0
  have cv1 := (unhide V13).cell 1
  simp at cv0 cv1
  have lcv : b6 < w13.heap.size := by omega
  go_wp2_with fail
  clear cv0 cv1 lcv
  refine (heldWordsResult_any (goneCode u e) _ _ (goneWords u e).length 1 _ (intsAt_own1 (unhide G13)) hwl (by omega) (by omega)).mono ?_
  rintro e w14 ⟨rfl, hb⟩
  have z14 : w13.heap.size ≤ w14.heap.size := hb.size
  have S14 := hide (own_below (unhide S13) hb)
  have R14 := hide ((unhide R13).below hb)
  have G14 := hide (own_below (unhide G13) hb)
  have V14 := hide ((unhide V13).below hb)
  have H14 := hide (own_below (unhide H13) hb)
  have Z14 := hide ((unhide Z13).below hb)
  have B14 := hide (below_step (unhide B13) hb (by omega))
  clear hb S13 R13 G13 V13 H13 Z13 B13
  go_wp2_with fail
  go_ret
  exact ⟨rfl, unhide B14⟩
end Go.Proofs.Ytmkahaddnbhnaaa.fnExactPackGone
