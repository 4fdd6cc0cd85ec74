/-
  The walk of laws.FnExactPackNode: it returns true, and writes nothing that was there.
-/
import Derived.Test.YtmkahaddnbhnaaaIPackWalk
import Derived.Test.YtmkahaddnbhnaaaSPackWalk
import Derived.Test.YtmkahaddnbhnaaaResWalk
import Derived.Test.YtmkahaddnbhnaaaToNodeWalk
namespace Go.Proofs.Ytmkahaddnbhnaaa.fnExactPackNode
open Go.RowKit
set_option linter.unusedVariables false

set_option maxHeartbeats 4000000 in
theorem walk (u : Int) (d : Bool) (p : Int) (nm : ByteArray) (s e : Int) (w : World) (hs : nm.size ≤ maxLen) (w1 : (Lit.int .i64 e).wf = true) :
    Calls Try.prog 7 #[.agg #[.int .i64 u, .bool d, .int .i64 p, .string nm, .int .i64 s], .int .i64 e] w fun e w' => e = .returned (.bool true) ∧ Below w.heap.size w w' := by
  clear w1
  have hwl : (nodeWords u d p nm.data.toList s e).length ≤ 1048576 := nodeWords_len u d p nm.data.toList s e
  go_enter Try.func7, Try.ntmps7
  go_wp2_with fail
  obtain ⟨W1, hW, z1, hbx, hx⟩ := boxes1 w [.int .i64 u, .bool d, .int .i64 p, .string nm, .int .i64 s] 53
  rw [← hW]
  clear hW
  have B1 := hbx
  have P1 := hx
  clear hbx hx
  refine (szNode_any u d p nm s _ _ (by decide) (by decide) hs).mono ?_
  rintro e w2 ⟨⟨r, rfl, hl⟩, hb⟩
  have z2 : W1.heap.size ≤ w2.heap.size := hb.size
  have P2 := hide ((unhide P1).below hb)
  have B2 := hide (below_step (unhide B1) hb (by omega))
  clear hb P1 B1
  by_cases hr : r < 0
  · clear hl
    go_wp2_with fail
    go_ret
    exact ⟨rfl, unhide B2⟩
  clear hl
  have cn0 := (unhide P2).cell 0
  have cn1 := (unhide P2).cell 1
  have cn2 := (unhide P2).cell 2
  have cn3 := (unhide P2).cell 3
  have cn4 := (unhide P2).cell 4
  simp at cn0 cn1 cn2 cn3 cn4
  have lcn : w.heap.size < w2.heap.size := by omega
  go_wp2_with fail
  clear cn0 cn1 cn2 cn3 cn4 lcn
  refine (toNode_any u d p nm s _).mono ?_
  rintro e w3 ⟨rfl, hb⟩
  have z3 : w2.heap.size ≤ w3.heap.size := hb.size
  have P3 := hide ((unhide P2).below hb)
  have B3 := hide (below_step (unhide B2) hb (by omega))
  clear hb P2 B2
  go_wp2_with fail
  refine (specPackNode_any u d p nm s e _ hs).mono ?_
  rintro e w4 ⟨⟨vs, rfl, ho⟩, hb⟩
  have z4 : w3.heap.size ≤ w4.heap.size := hb.size
  have P4 := hide ((unhide P3).below hb)
  have B4 := hide (below_step (unhide B3) hb (by omega))
  clear hb P3 B3
  obtain ⟨a1, c1, rfl, -, -, -, -⟩ := intsAt_own ho
  have S5 := hide ho
  have LS := hide (fun q hq => World.ownsRow.lt ho q hq)
  clear ho
  have cn0 := (unhide P4).cell 0
  have cn1 := (unhide P4).cell 1
  have cn2 := (unhide P4).cell 2
  have cn3 := (unhide P4).cell 3
  have cn4 := (unhide P4).cell 4
  simp at cn0 cn1 cn2 cn3 cn4
  have lcn : w.heap.size < w4.heap.size := by omega
  go_wp2_with fail
  clear cn0 cn1 cn2 cn3 cn4 lcn
  obtain ⟨W6, hW, z6, hbx, hx⟩ := boxes1 w4 [.int .i64 (nodePCode u d p nm.data.toList s e), .slice a1 (nodeWords u d p nm.data.toList s e).length c1] 30
  rw [← hW]
  clear hW
  have P6 := hide ((unhide P4).below (unhide hbx))
  have S6 := hide (own_below (unhide S5) (unhide hbx))
  have B6 := hide (below_step (unhide B4) (unhide hbx) (by omega))
  have R6 := hx
  clear hbx hx P4 S5 B4
  have u6 : w4.heap.size < W6.heap.size := by omega
  generalize w4.heap.size = b6 at *
  refine (toNode_any u d p nm s _).mono ?_
  rintro e w7 ⟨rfl, hb⟩
  have z7 : W6.heap.size ≤ w7.heap.size := hb.size
  have P7 := hide ((unhide P6).below hb)
  have S7 := hide (own_below (unhide S6) hb)
  have R7 := hide ((unhide R6).below hb)
  have B7 := hide (below_step (unhide B6) hb (by omega))
  clear hb P6 S6 R6 B6
  go_wp2_with fail
  refine (implPackNode_any u d p nm s e _ hs).mono ?_
  rintro e w8 ⟨⟨vg, rfl, ho⟩, hb⟩
  have z8 : w7.heap.size ≤ w8.heap.size := hb.size
  have P8 := hide ((unhide P7).below hb)
  have S8 := hide (own_below (unhide S7) hb)
  have R8 := hide ((unhide R7).below hb)
  have B8 := hide (below_step (unhide B7) hb (by omega))
  clear hb P7 S7 R7 B7
  obtain ⟨a2, c2, rfl, -, -, -, -⟩ := intsAt_own ho
  have G9 := hide ho
  have LG := hide (fun q hq => World.ownsRow.lt ho q hq)
  clear ho
  have cr0 := (unhide R8).cell 0
  have cr1 := (unhide R8).cell 1
  simp at cr0 cr1
  have lcr : b6 < w8.heap.size := by omega
  go_wp2_with fail
  clear cr0 cr1 lcr
  obtain ⟨W10, hW, z10, hbx, hx⟩ := boxes1 w8 [.int .i64 (nodePCode u d p nm.data.toList s e), .slice a2 (nodeWords u d p nm.data.toList s e).length c2] 30
  rw [← hW]
  clear hW
  have P10 := hide ((unhide P8).below (unhide hbx))
  have S10 := hide (own_below (unhide S8) (unhide hbx))
  have R10 := hide ((unhide R8).below (unhide hbx))
  have G10 := hide (own_below (unhide G9) (unhide hbx))
  have B10 := hide (below_step (unhide B8) (unhide hbx) (by omega))
  have V10 := hx
  clear hbx hx P8 S8 R8 G9 B8
  have u10 : w8.heap.size < W10.heap.size := by omega
  generalize w8.heap.size = b10 at *
  refine (eqWordsResult_same (nodePCode u d p nm.data.toList s e) _ _ _ _ (nodeWords u d p nm.data.toList s e) _ (intsAt_own1 (unhide G10)) (intsAt_own1 (unhide S10)) hwl).mono ?_
  rintro e w11 ⟨rfl, hb⟩
  have z11 : W10.heap.size ≤ w11.heap.size := hb.size
  have P11 := hide ((unhide P10).below hb)
  have S11 := hide (own_below (unhide S10) hb)
  have R11 := hide ((unhide R10).below hb)
  have G11 := hide (own_below (unhide G10) hb)
  have V11 := hide ((unhide V10).below hb)
  have B11 := hide (below_step (unhide B10) hb (by omega))
  clear hb P10 S10 R10 G10 V10 B10
  have cv0 := (unhide V11).cell 0
  have cv1 := (unhide V11).cell 1
  simp at cv0 cv1
  have lcv : b10 < w11.heap.size := by omega
  go_wp2_with fail
  clear cv0 cv1 lcv
  refine (markWordsResult_any (nodePCode u d p nm.data.toList s e) _ _ (nodeWords u d p nm.data.toList s e).length _ _ 1 _ (unhide G11) hwl (by omega) (by omega)).mono ?_
  rintro e w12 ⟨rfl, hO, ho⟩
  have z12 : w11.heap.size ≤ w12.heap.size := ho.size
  have P12 := hide ((unhide P11).out ho (fun h => by have h2 := unhide LG _ h; omega))
  have S12 := hide (ho.own (unhide S11) (fun q hq h => by have h2 := unhide LG _ h; have h1 := unhide LS _ hq; omega))
  have R12 := hide ((unhide R11).out ho (fun h => by have h2 := unhide LG _ h; omega))
  have V12 := hide ((unhide V11).out ho (fun h => by have h2 := unhide LG _ h; omega))
  have B12 := hide (ho.below (unhide B11) (Nat.le_refl _) (fun q hq h => by have h2 := unhide LG _ h; omega))
  have G12 := hide hO
  clear ho hO P11 S11 R11 V11 B11 G11
  have cv0 := (unhide V12).cell 0
  have cv1 := (unhide V12).cell 1
  simp at cv0 cv1
  have lcv : b10 < w12.heap.size := by omega
  have kk : ¬ (1 : Int) + ((nodeWords u d p nm.data.toList s e).length : Int) < 0 := by omega
  have kn := int_neq_self ((1 : Int) + ((nodeWords u d p nm.data.toList s e).length : Int))
  go_wp2_with fail
  clear cv0 cv1 lcv
  refine (heldWordsResult_any (nodePCode u d p nm.data.toList s e) _ _ (nodeWords u d p nm.data.toList s e).length 1 _ (intsAt_own1 (unhide G12)) hwl (by omega) (by omega)).mono ?_
  rintro e w13 ⟨rfl, hb⟩
  have z13 : w12.heap.size ≤ w13.heap.size := hb.size
  have P13 := hide ((unhide P12).below hb)
  have S13 := hide (own_below (unhide S12) hb)
  have R13 := hide ((unhide R12).below hb)
  have G13 := hide (own_below (unhide G12) hb)
  have V13 := hide ((unhide V12).below hb)
  have B13 := hide (below_step (unhide B12) hb (by omega))
  clear hb P12 S12 R12 G12 V12 B12
  have cn0 := (unhide P13).cell 0
  have cn1 := (unhide P13).cell 1
  have cn2 := (unhide P13).cell 2
  have cn3 := (unhide P13).cell 3
  have cn4 := (unhide P13).cell 4
  simp at cn0 cn1 cn2 cn3 cn4
  have lcn : w.heap.size < w13.heap.size := by omega
  go_wp2_with fail
  clear cn0 cn1 cn2 cn3 cn4 lcn
  refine (toNode_any u d p nm s _).mono ?_
  rintro e w14 ⟨rfl, hb⟩
  have z14 : w13.heap.size ≤ w14.heap.size := hb.size
  have P14 := hide ((unhide P13).below hb)
  have S14 := hide (own_below (unhide S13) hb)
  have R14 := hide ((unhide R13).below hb)
  have G14 := hide (own_below (unhide G13) hb)
  have V14 := hide ((unhide V13).below hb)
  have B14 := hide (below_step (unhide B13) hb (by omega))
  clear hb P13 S13 R13 G13 V13 B13
  go_wp2_with fail
  refine (implPackNode_any u d p nm s e _ hs).mono ?_
  rintro e w15 ⟨⟨vh, rfl, ho⟩, hb⟩
  have z15 : w14.heap.size ≤ w15.heap.size := hb.size
  have P15 := hide ((unhide P14).below hb)
  have S15 := hide (own_below (unhide S14) hb)
  have R15 := hide ((unhide R14).below hb)
  have G15 := hide (own_below (unhide G14) hb)
  have V15 := hide ((unhide V14).below hb)
  have B15 := hide (below_step (unhide B14) hb (by omega))
  clear hb P14 S14 R14 G14 V14 B14
  obtain ⟨a3, c3, rfl, -, -, -, -⟩ := intsAt_own ho
  have H16 := hide ho
  have LH := hide (fun q hq => World.ownsRow.lt ho q hq)
  clear ho
  have cr0 := (unhide R15).cell 0
  have cr1 := (unhide R15).cell 1
  simp at cr0 cr1
  have lcr : b6 < w15.heap.size := by omega
  go_wp2_with fail
  clear cr0 cr1 lcr
  obtain ⟨W17, hW, z17, hbx, hx⟩ := boxes1 w15 [.int .i64 (nodePCode u d p nm.data.toList s e), .slice a3 (nodeWords u d p nm.data.toList s e).length c3] 30
  rw [← hW]
  clear hW
  have P17 := hide ((unhide P15).below (unhide hbx))
  have S17 := hide (own_below (unhide S15) (unhide hbx))
  have R17 := hide ((unhide R15).below (unhide hbx))
  have G17 := hide (own_below (unhide G15) (unhide hbx))
  have V17 := hide ((unhide V15).below (unhide hbx))
  have H17 := hide (own_below (unhide H16) (unhide hbx))
  have B17 := hide (below_step (unhide B15) (unhide hbx) (by omega))
  have Z17 := hx
  clear hbx hx P15 S15 R15 G15 V15 H16 B15
  have u17 : w15.heap.size < W17.heap.size := by omega
  generalize w15.heap.size = b17 at *
  refine (eqWordsResult_same (nodePCode u d p nm.data.toList s e) _ _ _ _ (nodeWords u d p nm.data.toList s e) _ (intsAt_own1 (unhide H17)) (intsAt_own1 (unhide S17)) hwl).mono ?_
  rintro e w18 ⟨rfl, hb⟩
  have z18 : W17.heap.size ≤ w18.heap.size := hb.size
  have P18 := hide ((unhide P17).below hb)
  have S18 := hide (own_below (unhide S17) hb)
  have R18 := hide ((unhide R17).below hb)
  have G18 := hide (own_below (unhide G17) hb)
  have V18 := hide ((unhide V17).below hb)
  have H18 := hide (own_below (unhide H17) hb)
  have Z18 := hide ((unhide Z17).below hb)
  have B18 := hide (below_step (unhide B17) hb (by omega))
  clear hb P17 S17 R17 G17 V17 H17 Z17 B17
  have cv0 := (unhide V18).cell 0
  have cv1 := (unhide V18).cell 1
  simp at cv0 cv1
  have lcv : b10 < w18.heap.size := by omega
  go_wp2_with fail
  clear cv0 cv1 lcv
  refine (heldWordsResult_any (nodePCode u d p nm.data.toList s e) _ _ (nodeWords u d p nm.data.toList s e).length 1 _ (intsAt_own1 (unhide G18)) hwl (by omega) (by omega)).mono ?_
  rintro e w19 ⟨rfl, hb⟩
  have z19 : w18.heap.size ≤ w19.heap.size := hb.size
  have P19 := hide ((unhide P18).below hb)
  have S19 := hide (own_below (unhide S18) hb)
  have R19 := hide ((unhide R18).below hb)
  have G19 := hide (own_below (unhide G18) hb)
  have V19 := hide ((unhide V18).below hb)
  have H19 := hide (own_below (unhide H18) hb)
  have Z19 := hide ((unhide Z18).below hb)
  have B19 := hide (below_step (unhide B18) hb (by omega))
  clear hb P18 S18 R18 G18 V18 H18 Z18 B18
  go_wp2_with fail
  go_ret
  exact ⟨rfl, unhide B19⟩
end Go.Proofs.Ytmkahaddnbhnaaa.fnExactPackNode
