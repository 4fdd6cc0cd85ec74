/-
  What the laws' own sizes, copies and comparisons of states answer.
-/
import Derived.Test.YtaadbgebcknfkaaStateMath
import Derived.Test.YtaadbgebcknfkaaCellBox
import Derived.Test.YtaadbgebcknfkaaBoolWalk
import Derived.Test.YtaadbgebcknfkaaDevTo2
import Derived.Test.YtaadbgebcknfkaaItemSz
import Derived.Test.YtaadbgebcknfkaaItemTo
import Derived.Test.YtaadbgebcknfkaaItemEq
import Derived.Test.YtaadbgebcknfkaaNoteSz
import Derived.Test.YtaadbgebcknfkaaNoteTo
import Derived.Test.YtaadbgebcknfkaaNoteEq
namespace Go.Proofs.Ytaadbgebcknfkaa
open Go.RowKit
set_option linter.unusedVariables false

set_option maxRecDepth 20000 in
set_option maxHeartbeats 4000000 in
theorem szState_any (x : StaA) (left : Int) (w : World) (h0 : 0 ≤ left) (h1 : left ≤ 1048576) (h : x.sideR w) (hm : x.lens maxLen) :
    Calls Try.prog 21 #[.agg #[.bool x.up, .int .i64 x.now, .int .i64 x.su, .slice x.a1 x.D.words.length x.c1, .slice x.a2 x.D.flights.length x.c2, .slice x.a3 x.D.over.length x.c3, .slice x.aI x.LI.length x.cI, .int .i64 x.fr, .slice x.aB x.bl.length x.cB, .slice x.aC x.cl.length x.cC, .slice x.aN x.LN.length x.cN], .int .i64 left] w fun r w' => (∃ y : Int, r = .returned (.int .i64 y) ∧ (y < 0 ∨ (0 ≤ y ∧ y ≤ left ∧ x.lens 1048576 ∧ x.inner))) ∧ Below w.heap.size w w' := by
  obtain ⟨up, now, su, D, a1, a2, a3, c1, c2, c3, LI, aI, cI, fr, bl, aB, cB, cl, aC, cC, LN, aN, cN⟩ := x
  obtain ⟨hd, hit, hbo, hcs, hns⟩ := h
  obtain ⟨m1, m2, m3, mI, mB, mC, mN⟩ := hm
  simp only at hd hit hbo hcs hns m1 m2 m3 mI mB mC mN
  obtain ⟨W, hW, hWz, HB0, HP0⟩ := boxes1 w [.bool up, .int .i64 now, .int .i64 su, .slice a1 D.words.length c1, .slice a2 D.flights.length c2, .slice a3 D.over.length c3, .slice aI LI.length cI, .int .i64 fr, .slice aB bl.length cB, .slice aC cl.length cC, .slice aN LN.length cN] 59
  have HI := hide (hit.below (unhide HB0))
  have HN := hide (hns.below (unhide HB0))
  clear hd hit hbo hcs hns
  go_enter Try.func21, Try.ntmps21
  go_wp2_with fail
  rw [← hW]
  clear hW
  refine (szDevice_any a1 a2 a3 D.words.length c1 D.flights.length c2 D.over.length c3 left _ h0 h1 m1 m2 m3).mono ?_
  rintro r w2 ⟨⟨v2, rfl, hr⟩, hb⟩
  have HP2 := hide ((unhide HP0).below hb)
  have HI2 := hide ((unhide HI).below hb)
  have HN2 := hide ((unhide HN).below hb)
  have B2 := hide (below_step (unhide HB0) hb (by omega))
  have z2 := hb.size
  clear hb HP0 HI HN HB0
  by_cases hv : v2 < 0
  · clear hr
    go_wp2_with fail
    go_ret
    exact ⟨⟨_, rfl, .inl (by decide)⟩, unhide B2⟩
  have k2 : 0 ≤ v2 ∧ v2 ≤ left ∧ (D.words.length : Int) ≤ left ∧ (D.flights.length : Int) ≤ left ∧ (D.over.length : Int) ≤ left := by
    rcases hr with ⟨e1, e2⟩ | ⟨e1, e2⟩ <;> omega
  obtain ⟨k20, k21, k2r⟩ := k2
  have K2 := hide k2r
  clear hr k2r
  have p6 := (unhide HP2).cell 6
  simp only [List.getElem?_cons_zero, List.getElem?_cons_succ] at p6
  go_wp2_with fail
  refine (szItemS_any aI cI LI v2 _ (unhide HI2) mI k20 (by omega)).mono ?_
  rintro r w3 ⟨⟨v3, rfl, hr⟩, hb⟩
  have HP3 := hide ((unhide HP2).below hb)
  have HN3 := hide ((unhide HN2).below hb)
  have B3 := hide (below_step (unhide B2) hb (by omega))
  have z3 := hb.size
  clear hb HP2 HI2 HN2 B2 p6
  by_cases hv3 : v3 < 0
  · clear hr
    go_wp2_with fail
    go_ret
    exact ⟨⟨_, rfl, .inl (by decide)⟩, unhide B3⟩
  obtain ⟨k30, k31, k32, k33⟩ : 0 ≤ v3 ∧ v3 ≤ left ∧ (LI.length : Int) ≤ left ∧ ∀ y ∈ LI, y.b.l.length ≤ 1048576 := by
    rcases hr with e | ⟨e1, e2, e3, e4⟩
    · omega
    · exact ⟨e1, by omega, by omega, e4⟩
  have K3 := hide (show (LI.length : Int) ≤ left ∧ ∀ y ∈ LI, y.b.l.length ≤ 1048576 from ⟨k32, k33⟩)
  clear hr k32 k33
  have p8 := (unhide HP3).cell 8
  have p9 := (unhide HP3).cell 9
  have p10 := (unhide HP3).cell 10
  simp only [List.getElem?_cons_zero, List.getElem?_cons_succ] at p8 p9 p10
  go_wp2_with fail
  refine (szBoolS_any aB bl.length cB v3 _ k30 (by omega) mB).mono ?_
  rintro r w4 ⟨⟨v4, rfl, hr⟩, rfl⟩
  by_cases hv4 : v4 < 0
  · clear hr
    go_wp2_with fail
    go_ret
    exact ⟨⟨_, rfl, .inl (by decide)⟩, unhide B3⟩
  obtain ⟨k40, k41, k42⟩ : 0 ≤ v4 ∧ v4 ≤ left ∧ (bl.length : Int) ≤ left := by
    rcases hr with ⟨e1, e2⟩ | ⟨e1, e2⟩ <;> omega
  have K4 := hide k42
  clear hr k42
  go_wp2_with fail
  refine (szInt64S_any aC cl.length cC v4 _ k40 (by omega) mC).mono ?_
  rintro r w5 ⟨⟨v5, rfl, hr⟩, rfl⟩
  by_cases hv5 : v5 < 0
  · clear hr
    go_wp2_with fail
    go_ret
    exact ⟨⟨_, rfl, .inl (by decide)⟩, unhide B3⟩
  obtain ⟨k50, k51, k52⟩ : 0 ≤ v5 ∧ v5 ≤ left ∧ (cl.length : Int) ≤ left := by
    rcases hr with ⟨e1, e2⟩ | ⟨e1, e2⟩ <;> omega
  have K5 := hide k52
  clear hr k52
  go_wp2_with fail
  refine (szNoteS_any aN cN LN v5 _ (unhide HN3) mN k50 (by omega)).mono ?_
  rintro r w6 ⟨⟨v6, rfl, hr⟩, hb⟩
  have B6 := hide (below_step (unhide B3) hb (by omega))
  clear hb HP3 HN3 B3 p8 p9 p10
  by_cases hv6 : v6 < 0
  · clear hr
    go_wp2_with fail
    go_ret
    exact ⟨⟨_, rfl, .inl (by decide)⟩, unhide B6⟩
  obtain ⟨k60, k61, k62, k63⟩ : 0 ≤ v6 ∧ v6 ≤ left ∧ (LN.length : Int) ≤ left ∧ ∀ y ∈ LN, y.small := by
    rcases hr with e | ⟨e1, e2, e3, e4⟩
    · omega
    · exact ⟨e1, by omega, by omega, e4⟩
  have K6 := hide (show (LN.length : Int) ≤ left ∧ ∀ y ∈ LN, y.small from ⟨k62, k63⟩)
  clear hr k62 k63
  go_wp2_with fail
  go_ret
  obtain ⟨q1, q2, q3⟩ := unhide K2
  obtain ⟨q4, q5⟩ := unhide K3
  have q6 := unhide K4
  have q7 := unhide K5
  obtain ⟨q8, q9⟩ := unhide K6
  exact ⟨⟨_, rfl, .inr ⟨k60, k61, ⟨by show D.words.length ≤ 1048576; omega, by show D.flights.length ≤ 1048576; omega, by show D.over.length ≤ 1048576; omega, by show LI.length ≤ 1048576; omega, by show bl.length ≤ 1048576; omega, by show cl.length ≤ 1048576; omega, by show LN.length ≤ 1048576; omega⟩, ⟨q5, q9⟩⟩⟩, unhide B6⟩
theorem bool_neq_self' (b : Bool) : (b != b) = false := by cases b <;> rfl
set_option maxRecDepth 20000 in
set_option maxHeartbeats 4000000 in
theorem eqState_same (x y : StaA) (w : World) (h : x.side w) (h2 : y.side w) (hl : x.lens 1048576) (hk : x.like y) :
    Calls Try.prog 26 #[.agg #[.bool x.up, .int .i64 x.now, .int .i64 x.su, .slice x.a1 x.D.words.length x.c1, .slice x.a2 x.D.flights.length x.c2, .slice x.a3 x.D.over.length x.c3, .slice x.aI x.LI.length x.cI, .int .i64 x.fr, .slice x.aB x.bl.length x.cB, .slice x.aC x.cl.length x.cC, .slice x.aN x.LN.length x.cN], .agg #[.bool y.up, .int .i64 y.now, .int .i64 y.su, .slice y.a1 y.D.words.length y.c1, .slice y.a2 y.D.flights.length y.c2, .slice y.a3 y.D.over.length y.c3, .slice y.aI y.LI.length y.cI, .int .i64 y.fr, .slice y.aB y.bl.length y.cB, .slice y.aC y.cl.length y.cC, .slice y.aN y.LN.length y.cN]] w fun r w' => r = .returned (.bool true) ∧ Below w.heap.size w w' := by
  obtain ⟨up, now, su, D, a1, a2, a3, c1, c2, c3, LI, aI, cI, fr, bl, aB, cB, cl, aC, cC, LN, aN, cN⟩ := x
  obtain ⟨up', now', su', D', a1', a2', a3', c1', c2', c3', LI', aI', cI', fr', bl', aB', cB', cl', aC', cC', LN', aN', cN'⟩ := y
  obtain ⟨hd, hit, hbo, hcs, hns⟩ := h
  obtain ⟨hd2, hit2, hbo2, hcs2, hns2⟩ := h2
  obtain ⟨m1, m2, m3, mI, mB, mC, mN⟩ := hl
  obtain ⟨eu, en, es, eD, eI, ef, eb, ec, eN⟩ := hk
  simp only at hd hit hbo hcs hns m1 m2 m3 mI mB mC mN hd2 hit2 hbo2 hcs2 hns2 eu en es eD eI ef eb ec eN
  subst eu en es eD ef eb ec
  have lI : LI'.length = LI.length := by have := congrArg List.length eI; simp only [List.length_map] at this; omega
  have lN : LN'.length = LN.length := by have := congrArg List.length eN; simp only [List.length_map] at this; omega
  have EI := hide eI
  have EN := hide eN
  have MI := hide mI
  have MN := hide mN
  clear eI eN
  obtain ⟨W, hW, hWz, HB0, HX0, HY0⟩ := boxes2 w [.bool up, .int .i64 now, .int .i64 su, .slice a1 D.words.length c1, .slice a2 D.flights.length c2, .slice a3 D.over.length c3, .slice aI LI.length cI, .int .i64 fr, .slice aB bl.length cB, .slice aC cl.length cC, .slice aN LN.length cN] [.bool up, .int .i64 now, .int .i64 su, .slice a1' D.words.length c1', .slice a2' D.flights.length c2', .slice a3' D.over.length c3', .slice aI' LI'.length cI', .int .i64 fr, .slice aB' bl.length cB', .slice aC' cl.length cC', .slice aN' LN'.length cN'] 70 70
  have S1 := hide (show StaA.side W ⟨up, now, su, D, a1, a2, a3, c1, c2, c3, LI, aI, cI, fr, bl, aB, cB, cl, aC, cC, LN, aN, cN⟩ from StaA.side.below (x := ⟨up, now, su, D, a1, a2, a3, c1, c2, c3, LI, aI, cI, fr, bl, aB, cB, cl, aC, cC, LN, aN, cN⟩) ⟨hd, hit, hbo, hcs, hns⟩ (unhide HB0))
  have S2 := hide (show StaA.side W ⟨up, now, su, D, a1', a2', a3', c1', c2', c3', LI', aI', cI', fr, bl, aB', cB', cl, aC', cC', LN', aN', cN'⟩ from StaA.side.below (x := ⟨up, now, su, D, a1', a2', a3', c1', c2', c3', LI', aI', cI', fr, bl, aB', cB', cl, aC', cC', LN', aN', cN'⟩) ⟨hd2, hit2, hbo2, hcs2, hns2⟩ (unhide HB0))
  clear hd hit hbo hcs hns hd2 hit2 hbo2 hcs2 hns2
  have LII := hide lI
  have LNN := hide lN
  clear lI lN
  have hq1 := bool_neq_self' up
  have hq2 := int_neq_self now
  have hq3 := int_neq_self su
  have hq4 := int_neq_self fr
  go_enter Try.func26, Try.ntmps26
  go_wp2_with fail
  rw [← hW]
  clear hW
  refine (eqDevice_same a1 a2 a3 a1' a2' a3' c1 c2 c3 c1' c2' c3' D _ (unhide S1).dev (unhide S2).dev m1 m2 m3).mono ?_
  rintro r w2 ⟨rfl, hb⟩
  have S12 := hide ((unhide S1).below hb)
  have S22 := hide ((unhide S2).below hb)
  have X2 := hide ((unhide HX0).below hb)
  have Y2 := hide ((unhide HY0).below hb)
  have B2 := hide (below_step (unhide HB0) hb (by omega))
  have z2 := hb.size
  clear hb S1 S2 HX0 HY0 HB0
  have p6 := (unhide X2).cell 6
  have p7 := (unhide X2).cell 7
  simp only [List.getElem?_cons_zero, List.getElem?_cons_succ] at p6 p7
  have q6 := (unhide Y2).cell 6
  have q7 := (unhide Y2).cell 7
  simp only [List.getElem?_cons_zero, List.getElem?_cons_succ] at q6 q7
  go_wp2_with fail
  refine (eqItemS_same aI aI' cI cI' LI LI' _ (unhide S12).its (unhide S22).its (unhide MI) (unhide EI)).mono ?_
  rintro r w3 ⟨rfl, hb⟩
  have S13 := hide ((unhide S12).below hb)
  have S23 := hide ((unhide S22).below hb)
  have X3 := hide ((unhide X2).below hb)
  have Y3 := hide ((unhide Y2).below hb)
  have B3 := hide (below_step (unhide B2) hb (by omega))
  have z3 := hb.size
  clear hb S12 S22 X2 Y2 B2 p6 q6 p7 q7
  have p7 := (unhide X3).cell 7
  have p8 := (unhide X3).cell 8
  simp only [List.getElem?_cons_zero, List.getElem?_cons_succ] at p7 p8
  have q7 := (unhide Y3).cell 7
  have q8 := (unhide Y3).cell 8
  simp only [List.getElem?_cons_zero, List.getElem?_cons_succ] at q7 q8
  go_wp2_with fail
  refine (eqBoolS_same aB aB' cB cB' bl _ (unhide S13).bs (unhide S23).bs mB).mono ?_
  rintro r w4 ⟨rfl, hb⟩
  have S14 := hide ((unhide S13).below hb)
  have S24 := hide ((unhide S23).below hb)
  have X4 := hide ((unhide X3).below hb)
  have Y4 := hide ((unhide Y3).below hb)
  have B4 := hide (below_step (unhide B3) hb (by omega))
  have z4 := hb.size
  clear hb S13 S23 X3 Y3 B3 p7 q7 p8 q8
  have p9 := (unhide X4).cell 9
  simp only [List.getElem?_cons_zero, List.getElem?_cons_succ] at p9
  have q9 := (unhide Y4).cell 9
  simp only [List.getElem?_cons_zero, List.getElem?_cons_succ] at q9
  go_wp2_with fail
  refine (eqInt64S_same aC aC' cC cC' cl _ (unhide S14).cs (unhide S24).cs mC).mono ?_
  rintro r w5 ⟨rfl, hb⟩
  have S15 := hide ((unhide S14).below hb)
  have S25 := hide ((unhide S24).below hb)
  have X5 := hide ((unhide X4).below hb)
  have Y5 := hide ((unhide Y4).below hb)
  have B5 := hide (below_step (unhide B4) hb (by omega))
  have z5 := hb.size
  clear hb S14 S24 X4 Y4 B4 p9 q9
  have p10 := (unhide X5).cell 10
  simp only [List.getElem?_cons_zero, List.getElem?_cons_succ] at p10
  have q10 := (unhide Y5).cell 10
  simp only [List.getElem?_cons_zero, List.getElem?_cons_succ] at q10
  go_wp2_with fail
  refine (eqNoteS_same aN aN' cN cN' LN LN' _ (unhide S15).ns (unhide S25).ns (unhide MN) (unhide EN)).mono ?_
  rintro r w6 ⟨rfl, hb⟩
  have S16 := hide ((unhide S15).below hb)
  have S26 := hide ((unhide S25).below hb)
  have X6 := hide ((unhide X5).below hb)
  have Y6 := hide ((unhide Y5).below hb)
  have B6 := hide (below_step (unhide B5) hb (by omega))
  have z6 := hb.size
  clear hb S15 S25 X5 Y5 B5 p10 q10
  go_wp2_with fail
  go_ret
  exact ⟨rfl, unhide B6⟩
/-- Items and notes in rows of their own, from the block B on. -/
def ItmsX (w : World) (B g : Nat) (L : List ItmA) : Prop := Box w g (flatItm L) 165 ∧ B ≤ g ∧ ∀ y ∈ L, y.boxed w B ∧ y.b.l.length ≤ 1048576
def NtesX (w : World) (B g : Nat) (L : List NteA) : Prop := Box w g (flatNte L) 170 ∧ B ≤ g ∧ ∀ y ∈ L, y.boxed w B ∧ y.small
theorem ItmsX.below {w w' : World} {B g : Nat} {L : List ItmA} (h : ItmsX w B g L) (hb : Below w.heap.size w w') : ItmsX w' B g L := ⟨h.1.below hb, h.2.1, fun y hy => ⟨(h.2.2 y hy).1.below hb, (h.2.2 y hy).2⟩⟩
theorem NtesX.below {w w' : World} {B g : Nat} {L : List NteA} (h : NtesX w B g L) (hb : Below w.heap.size w w') : NtesX w' B g L := ⟨h.1.below hb, h.2.1, fun y hy => ⟨(h.2.2 y hy).1.below hb, (h.2.2 y hy).2⟩⟩
theorem ItmsX.out {F : Nat → Prop} {w w' : World} {B g : Nat} {L : List ItmA} (h : ItmsX w B g L) (ho : Out F w w') (hF : ∀ q, B ≤ q → ¬ F q) : ItmsX w' B g L := ⟨h.1.out ho (hF g h.2.1), h.2.1, fun y hy => ⟨(h.2.2 y hy).1.out ho hF, (h.2.2 y hy).2⟩⟩
theorem NtesX.out {F : Nat → Prop} {w w' : World} {B g : Nat} {L : List NteA} (h : NtesX w B g L) (ho : Out F w w') (hF : ∀ q, B ≤ q → ¬ F q) : NtesX w' B g L := ⟨h.1.out ho (hF g h.2.1), h.2.1, fun y hy => ⟨(h.2.2 y hy).1.out ho hF, (h.2.2 y hy).2⟩⟩
theorem ItmsX.mono {w : World} {B B' g : Nat} {L : List ItmA} (h : ItmsX w B g L) (hB : B' ≤ B) : ItmsX w B' g L := ⟨h.1, Nat.le_trans hB h.2.1, fun y hy => ⟨(h.2.2 y hy).1.mono hB, (h.2.2 y hy).2⟩⟩
theorem NtesX.mono {w : World} {B B' g : Nat} {L : List NteA} (h : NtesX w B g L) (hB : B' ≤ B) : NtesX w B' g L := ⟨h.1, Nat.le_trans hB h.2.1, fun y hy => ⟨(h.2.2 y hy).1.mono hB, (h.2.2 y hy).2⟩⟩
theorem ItmsX.at {w : World} {B g : Nat} {L : List ItmA} (h : ItmsX w B g L) : ItmsAt w (some ⟨g, 0, none⟩) L := box_Itm h.1 (fun x hx => ⟨(h.2.2 x hx).1.ints, (h.2.2 x hx).2⟩)
theorem NtesX.at {w : World} {B g : Nat} {L : List NteA} (h : NtesX w B g L) : NtesAt w (some ⟨g, 0, none⟩) L := box_Nte h.1 (fun x hx => ⟨(h.2.2 x hx).1.side, (h.2.2 x hx).2⟩)
/-- A state whose lists are nobody else's, from the block B on. -/
structure StaA.own (B : Nat) (w : World) (x : StaA) : Prop where
  dev : OwnDev w B (.slice x.a1 x.D.words.length x.c1) (.slice x.a2 x.D.flights.length x.c2) (.slice x.a3 x.D.over.length x.c3) x.D
  its : ∃ g, x.aI = some ⟨g, 0, none⟩ ∧ ItmsX w B g x.LI
  bs : w.ownsRow B 4 1 (.slice x.aB x.bl.length x.cB) x.bl.length (bols x.bl)
  cs : w.ownsRow B 2 1 (.slice x.aC x.cl.length x.cC) x.cl.length (nums x.cl)
  ns : ∃ g, x.aN = some ⟨g, 0, none⟩ ∧ NtesX w B g x.LN
theorem StaA.own.side {B : Nat} {w : World} {x : StaA} (h : x.own B w) : x.side w := by
  obtain ⟨g, e, hi⟩ := h.its
  obtain ⟨k, f, hn⟩ := h.ns
  exact ⟨h.dev.reads, by rw [e]; exact hi.at, boolsAt_own1 h.bs, intsAt_own1 h.cs, by rw [f]; exact hn.at⟩
theorem StaA.own.below {B : Nat} {w w' : World} {x : StaA} (h : x.own B w) (hb : Below w.heap.size w w') : x.own B w' := by
  obtain ⟨g, e, hi⟩ := h.its
  obtain ⟨k, f, hn⟩ := h.ns
  exact ⟨h.dev.below hb, ⟨g, e, hi.below hb⟩, own_below h.bs hb, own_below h.cs hb, ⟨k, f, hn.below hb⟩⟩
set_option maxRecDepth 20000 in
set_option maxHeartbeats 8000000 in
theorem toState_own (x : StaA) (w : World) (h : x.side w) (hl : x.lens 1048576) :
    Calls Try.prog 23 #[.agg #[.bool x.up, .int .i64 x.now, .int .i64 x.su, .slice x.a1 x.D.words.length x.c1, .slice x.a2 x.D.flights.length x.c2, .slice x.a3 x.D.over.length x.c3, .slice x.aI x.LI.length x.cI, .int .i64 x.fr, .slice x.aB x.bl.length x.cB, .slice x.aC x.cl.length x.cC, .slice x.aN x.LN.length x.cN]] w fun r w' => (∃ y : StaA, r = .returned (.agg y.cells.toArray) ∧ y.like x ∧ y.own w.heap.size w') ∧ Below w.heap.size w w' := by
  obtain ⟨up, now, su, D, a1, a2, a3, c1, c2, c3, LI, aI, cI, fr, bl, aB, cB, cl, aC, cC, LN, aN, cN⟩ := x
  obtain ⟨hd, hit, hbo, hcs, hns⟩ := h
  obtain ⟨m1, m2, m3, mI, mB, mC, mN⟩ := hl
  simp only at hd hit hbo hcs hns m1 m2 m3 mI mB mC mN
  have HD := hide hd
  have HI := hide hit
  have HO := hide hbo
  have HC := hide hcs
  have HN := hide hns
  clear hd hit hbo hcs hns
  obtain ⟨W, hW, hWz, HB0, HP0, HX0, HY0⟩ := boxes3 w [.bool up, .int .i64 now, .int .i64 su, .slice a1 D.words.length c1, .slice a2 D.flights.length c2, .slice a3 D.over.length c3, .slice aI LI.length cI, .int .i64 fr, .slice aB bl.length cB, .slice aC cl.length cC, .slice aN LN.length cN] [.bool false, .int .i64 0, .int .i64 0, .slice none 0 0, .slice none 0 0, .slice none 0 0, .slice none 0 0, .int .i64 0, .slice none 0 0, .slice none 0 0, .slice none 0 0] [.bool up, .int .i64 now, .int .i64 su, .slice none 0 0, .slice none 0 0, .slice none 0 0, .slice none 0 0, .int .i64 0, .slice none 0 0, .slice none 0 0, .slice none 0 0] 59 70 70
  go_enter Try.func23, Try.ntmps23
  go_wp2_with fail
  rw [← hW]
  clear hW
  have npY : w.heap.size ≠ w.heap.size + 1 + 1 := by omega
  have nxY : ¬ w.heap.size + 1 = w.heap.size + 1 + 1 := by omega
  have z0 : w.heap.size + 1 + 1 < W.heap.size := by omega
  refine (toDevice_any a1 a2 a3 c1 c2 c3 D _ ((unhide HD).below (unhide HB0)) m1 m2 m3).mono ?_
  rintro r w1 ⟨⟨g1, g2, g3, rfl, ho⟩, hb⟩
  have P1 := hide ((unhide HP0).below hb)
  have X1 := hide ((unhide HX0).below hb)
  have Y1 := hide ((unhide HY0).below hb)
  have B1 := hide (below_step (unhide HB0) hb (by omega))
  have z1 : w.heap.size + 1 + 1 < w1.heap.size := by have := hb.size; omega
  have OD1 := hide ho
  have LD : Hid (∀ q, Own1 (.slice (some ⟨g1, 0, none⟩) D.words.length D.words.length) (.slice (some ⟨g2, 0, none⟩) D.flights.length D.flights.length) (.slice (some ⟨g3, 0, none⟩) D.over.length D.over.length) q → ¬ q ≤ w.heap.size + 1 + 1) := fun q hq e => by have := (ho.lt hq).1; omega
  clear hb ho HP0 HX0 HY0 HB0 HD
  go_wp2_with (refine wpList_store_part rfl 66 (.tmp 16) (.tmp 15) rfl (w.heap.size + 1 + 1) 3 _ rfl rfl 70 _ (unhide Y1) (by kernel_rfl) (by simp) (by simp [Value.oneCell']) ?_; intro w2 X0 O0; have Y2 : Hid (Box w2 (w.heap.size + 1 + 1) [.bool up, .int .i64 now, .int .i64 su, .slice (some ⟨g1, 0, none⟩) D.words.length D.words.length, .slice (some ⟨g2, 0, none⟩) D.flights.length D.flights.length, .slice (some ⟨g3, 0, none⟩) D.over.length D.over.length, .slice none 0 0, .int .i64 0, .slice none 0 0, .slice none 0 0, .slice none 0 0] 70) := X0; have P2 := hide ((unhide P1).out (unhide O0) npY); have X2 := hide ((unhide X1).out (unhide O0) nxY); have B2 := hide ((unhide O0).below (unhide B1) (Nat.le_refl _) (fun q hq e => by omega)); have z2 : w.heap.size + 1 + 1 < w2.heap.size := (by have := (unhide O0).size; omega); have O1 := hide (Out.weak (unhide O0) (G := fun q => q ≤ w.heap.size + 1 + 1) (fun q _ e => Nat.le_of_eq e)); have OD2 := hide (OwnDev.out (unhide OD1) (unhide O1) (unhide LD)); clear X0 O0 O1 Y1 P1 X1 B1 OD1; have p6 := (unhide P2).cell 6; simp only [List.getElem?_cons_zero, List.getElem?_cons_succ] at p6)
  refine (toItemS_box aI cI LI _ ((unhide HI).below (unhide B2)) mI).mono ?_
  rintro r w3 ⟨⟨gI, LI', rfl, hbx, hin, hmI, hgI⟩, hb⟩
  have P3 := hide ((unhide P2).below hb)
  have X3 := hide ((unhide X2).below hb)
  have Y3 := hide ((unhide Y2).below hb)
  have B3 := hide (below_step (unhide B2) hb (by omega))
  have z3 : w.heap.size + 1 + 1 < w3.heap.size := by have := hb.size; omega
  have OD3 := hide (OwnDev.below (unhide OD2) hb)
  have SI3 : Hid (ItmsX w3 (w.heap.size + 1 + 1 + 1) gI LI') := ⟨hbx, by omega, fun y hy => ⟨(hin y hy).1.mono (by omega), (hin y hy).2⟩⟩
  have EI := hide hmI
  have LIX : Hid (∀ q, w.heap.size + 1 + 1 + 1 ≤ q → ¬ q ≤ w.heap.size + 1 + 1) := fun q h1 h2 => by omega
  have hlI : LI'.length = LI.length := by have := congrArg List.length hmI; simp only [List.length_map] at this; omega
  have LLI := hide hlI
  clear hbx hin hmI hgI hlI
  clear hb P2 X2 Y2 B2 OD2 p6 HI
  go_wp2_with (first
    | (refine wpList_store_cell rfl 67 (.tmp 20) (.tmp 19) rfl (w.heap.size + 1 + 1) 6 (.slice (some ⟨gI, 0, none⟩) LI.length LI.length) rfl rfl 70 _ (unhide Y3) (by kernel_rfl) (by simp) rfl rfl ?_; intro w4 X0 O0; have Y4 : Hid (Box w4 (w.heap.size + 1 + 1) [.bool up, .int .i64 now, .int .i64 su, .slice (some ⟨g1, 0, none⟩) D.words.length D.words.length, .slice (some ⟨g2, 0, none⟩) D.flights.length D.flights.length, .slice (some ⟨g3, 0, none⟩) D.over.length D.over.length, .slice (some ⟨gI, 0, none⟩) LI.length LI.length, .int .i64 0, .slice none 0 0, .slice none 0 0, .slice none 0 0] 70) := X0; have P4 := hide ((unhide P3).out (unhide O0) npY); have X4 := hide ((unhide X3).out (unhide O0) nxY); have B4 := hide ((unhide O0).below (unhide B3) (Nat.le_refl _) (fun q hq e => by omega)); have z4 : w.heap.size + 1 + 1 < w4.heap.size := (by have := (unhide O0).size; omega); have O1 := hide (Out.weak (unhide O0) (G := fun q => q ≤ w.heap.size + 1 + 1) (fun q _ e => Nat.le_of_eq e)); have OD4 := hide (OwnDev.out (unhide OD3) (unhide O1) (unhide LD)); have SI4 := hide ((unhide SI3).out (unhide O1) (unhide LIX)); clear X0 O0 O1 Y3 P3 X3 B3 OD3 SI3; have p7 := (unhide P4).cell 7; simp only [List.getElem?_cons_zero, List.getElem?_cons_succ] at p7)
    | (refine wpList_store_cell rfl 2 (.tmp 23) (.tmp 22) rfl (w.heap.size + 1 + 1) 7 (.int .i64 fr) rfl rfl 70 _ (unhide Y4) (by kernel_rfl) (by simp) rfl rfl ?_; intro w5 X0 O0; have Y5 : Hid (Box w5 (w.heap.size + 1 + 1) [.bool up, .int .i64 now, .int .i64 su, .slice (some ⟨g1, 0, none⟩) D.words.length D.words.length, .slice (some ⟨g2, 0, none⟩) D.flights.length D.flights.length, .slice (some ⟨g3, 0, none⟩) D.over.length D.over.length, .slice (some ⟨gI, 0, none⟩) LI.length LI.length, .int .i64 fr, .slice none 0 0, .slice none 0 0, .slice none 0 0] 70) := X0; have P5 := hide ((unhide P4).out (unhide O0) npY); have X5 := hide ((unhide X4).out (unhide O0) nxY); have B5 := hide ((unhide O0).below (unhide B4) (Nat.le_refl _) (fun q hq e => by omega)); have z5 : w.heap.size + 1 + 1 < w5.heap.size := (by have := (unhide O0).size; omega); have O1 := hide (Out.weak (unhide O0) (G := fun q => q ≤ w.heap.size + 1 + 1) (fun q _ e => Nat.le_of_eq e)); have OD5 := hide (OwnDev.out (unhide OD4) (unhide O1) (unhide LD)); have SI5 := hide ((unhide SI4).out (unhide O1) (unhide LIX)); clear p7 X0 O0 O1 Y4 P4 X4 B4 OD4 SI4; have p8 := (unhide P5).cell 8; simp only [List.getElem?_cons_zero, List.getElem?_cons_succ] at p8))
  refine (toBoolS_any aB cB bl _ ((unhide HO).below (unhide B5)) mB).mono ?_
  rintro r w6 ⟨rfl, ho, hb⟩
  have P6 := hide ((unhide P5).below hb)
  have X6 := hide ((unhide X5).below hb)
  have Y6 := hide ((unhide Y5).below hb)
  have B6 := hide (below_step (unhide B5) hb (by omega))
  have z6 : w.heap.size + 1 + 1 < w6.heap.size := by have := hb.size; omega
  have OD6 := hide (OwnDev.below (unhide OD5) hb)
  have SI6 := hide ((unhide SI5).below hb)
  have SO6 := hide ho
  have LO : Hid (∀ q, (Value.slice (some ⟨w5.heap.size, 0, none⟩) bl.length bl.length).ownBlock = some q → ¬ q ≤ w.heap.size + 1 + 1) := fun q hq f => by simp [Value.ownBlock] at hq; omega
  obtain ⟨gB, hgB⟩ : ∃ gB, gB = w5.heap.size := ⟨_, rfl⟩
  rw [← hgB] at SO6 LO
  rw [← hgB]
  clear ho hgB
  clear hb P5 X5 Y5 B5 OD5 SI5 p8 HO
  go_wp2_with (refine wpList_store_cell rfl 56 (.tmp 27) (.tmp 26) rfl (w.heap.size + 1 + 1) 8 (.slice (some ⟨gB, 0, none⟩) bl.length bl.length) rfl rfl 70 _ (unhide Y6) (by kernel_rfl) (by simp) rfl rfl ?_; intro w7 X0 O0; have Y7 : Hid (Box w7 (w.heap.size + 1 + 1) [.bool up, .int .i64 now, .int .i64 su, .slice (some ⟨g1, 0, none⟩) D.words.length D.words.length, .slice (some ⟨g2, 0, none⟩) D.flights.length D.flights.length, .slice (some ⟨g3, 0, none⟩) D.over.length D.over.length, .slice (some ⟨gI, 0, none⟩) LI.length LI.length, .int .i64 fr, .slice (some ⟨gB, 0, none⟩) bl.length bl.length, .slice none 0 0, .slice none 0 0] 70) := X0; have P7 := hide ((unhide P6).out (unhide O0) npY); have X7 := hide ((unhide X6).out (unhide O0) nxY); have B7 := hide ((unhide O0).below (unhide B6) (Nat.le_refl _) (fun q hq e => by omega)); have z7 : w.heap.size + 1 + 1 < w7.heap.size := (by have := (unhide O0).size; omega); have O1 := hide (Out.weak (unhide O0) (G := fun q => q ≤ w.heap.size + 1 + 1) (fun q _ e => Nat.le_of_eq e)); have OD7 := hide (OwnDev.out (unhide OD6) (unhide O1) (unhide LD)); have SI7 := hide ((unhide SI6).out (unhide O1) (unhide LIX)); have SO7 := hide (Out.own (unhide O1) (unhide SO6) (unhide LO)); clear X0 O0 O1 Y6 P6 X6 B6 OD6 SI6 SO6; have p9 := (unhide P7).cell 9; simp only [List.getElem?_cons_zero, List.getElem?_cons_succ] at p9)
  refine (toInt64S_any aC cC cl _ ((unhide HC).below (unhide B7)) mC).mono ?_
  rintro r w8 ⟨rfl, ho, hb⟩
  have P8 := hide ((unhide P7).below hb)
  have X8 := hide ((unhide X7).below hb)
  have Y8 := hide ((unhide Y7).below hb)
  have B8 := hide (below_step (unhide B7) hb (by omega))
  have z8 : w.heap.size + 1 + 1 < w8.heap.size := by have := hb.size; omega
  have OD8 := hide (OwnDev.below (unhide OD7) hb)
  have SI8 := hide ((unhide SI7).below hb)
  have SO8 := hide (own_below (unhide SO7) hb)
  have SC8 := hide ho
  have LC : Hid (∀ q, (Value.slice (some ⟨w7.heap.size, 0, none⟩) cl.length cl.length).ownBlock = some q → ¬ q ≤ w.heap.size + 1 + 1) := fun q hq f => by simp [Value.ownBlock] at hq; omega
  obtain ⟨gC, hgC⟩ : ∃ gC, gC = w7.heap.size := ⟨_, rfl⟩
  rw [← hgC] at SC8 LC
  rw [← hgC]
  clear ho hgC
  clear hb P7 X7 Y7 B7 OD7 SI7 SO7 p9 HC
  go_wp2_with (refine wpList_store_cell rfl 24 (.tmp 31) (.tmp 30) rfl (w.heap.size + 1 + 1) 9 (.slice (some ⟨gC, 0, none⟩) cl.length cl.length) rfl rfl 70 _ (unhide Y8) (by kernel_rfl) (by simp) rfl rfl ?_; intro w9 X0 O0; have Y9 : Hid (Box w9 (w.heap.size + 1 + 1) [.bool up, .int .i64 now, .int .i64 su, .slice (some ⟨g1, 0, none⟩) D.words.length D.words.length, .slice (some ⟨g2, 0, none⟩) D.flights.length D.flights.length, .slice (some ⟨g3, 0, none⟩) D.over.length D.over.length, .slice (some ⟨gI, 0, none⟩) LI.length LI.length, .int .i64 fr, .slice (some ⟨gB, 0, none⟩) bl.length bl.length, .slice (some ⟨gC, 0, none⟩) cl.length cl.length, .slice none 0 0] 70) := X0; have P9 := hide ((unhide P8).out (unhide O0) npY); have X9 := hide ((unhide X8).out (unhide O0) nxY); have B9 := hide ((unhide O0).below (unhide B8) (Nat.le_refl _) (fun q hq e => by omega)); have z9 : w.heap.size + 1 + 1 < w9.heap.size := (by have := (unhide O0).size; omega); have O1 := hide (Out.weak (unhide O0) (G := fun q => q ≤ w.heap.size + 1 + 1) (fun q _ e => Nat.le_of_eq e)); have OD9 := hide (OwnDev.out (unhide OD8) (unhide O1) (unhide LD)); have SI9 := hide ((unhide SI8).out (unhide O1) (unhide LIX)); have SO9 := hide (Out.own (unhide O1) (unhide SO8) (unhide LO)); have SC9 := hide (Out.own (unhide O1) (unhide SC8) (unhide LC)); clear X0 O0 O1 Y8 P8 X8 B8 OD8 SI8 SO8 SC8; have p10 := (unhide P9).cell 10; simp only [List.getElem?_cons_zero, List.getElem?_cons_succ] at p10)
  refine (toNoteS_box aN cN LN _ ((unhide HN).below (unhide B9)) mN).mono ?_
  rintro r w10 ⟨⟨gN, LN', rfl, hbx, hin, hmN, hgN⟩, hb⟩
  have P10 := hide ((unhide P9).below hb)
  have X10 := hide ((unhide X9).below hb)
  have Y10 := hide ((unhide Y9).below hb)
  have B10 := hide (below_step (unhide B9) hb (by omega))
  have z10 : w.heap.size + 1 + 1 < w10.heap.size := by have := hb.size; omega
  have OD10 := hide (OwnDev.below (unhide OD9) hb)
  have SI10 := hide ((unhide SI9).below hb)
  have SO10 := hide (own_below (unhide SO9) hb)
  have SC10 := hide (own_below (unhide SC9) hb)
  have SN10 : Hid (NtesX w10 (w.heap.size + 1 + 1 + 1) gN LN') := ⟨hbx, by omega, fun y hy => ⟨(hin y hy).1.mono (by omega), (hin y hy).2⟩⟩
  have EN := hide hmN
  have hlN : LN'.length = LN.length := by have := congrArg List.length hmN; simp only [List.length_map] at this; omega
  have LLN := hide hlN
  clear hbx hin hmN hgN hlN
  clear hb P9 X9 Y9 B9 OD9 SI9 SO9 SC9 p10 HN
  go_wp2_with (first
    | (refine wpList_store_cell rfl 68 (.tmp 35) (.tmp 34) rfl (w.heap.size + 1 + 1) 10 (.slice (some ⟨gN, 0, none⟩) LN.length LN.length) rfl rfl 70 _ (unhide Y10) (by kernel_rfl) (by simp) rfl rfl ?_; intro w11 X0 O0; have Y11 : Hid (Box w11 (w.heap.size + 1 + 1) [.bool up, .int .i64 now, .int .i64 su, .slice (some ⟨g1, 0, none⟩) D.words.length D.words.length, .slice (some ⟨g2, 0, none⟩) D.flights.length D.flights.length, .slice (some ⟨g3, 0, none⟩) D.over.length D.over.length, .slice (some ⟨gI, 0, none⟩) LI.length LI.length, .int .i64 fr, .slice (some ⟨gB, 0, none⟩) bl.length bl.length, .slice (some ⟨gC, 0, none⟩) cl.length cl.length, .slice (some ⟨gN, 0, none⟩) LN.length LN.length] 70) := X0; have P11 := hide ((unhide P10).out (unhide O0) npY); have X11 := hide ((unhide X10).out (unhide O0) nxY); have B11 := hide ((unhide O0).below (unhide B10) (Nat.le_refl _) (fun q hq e => by omega)); have z11 : w.heap.size + 1 + 1 < w11.heap.size := (by have := (unhide O0).size; omega); have O1 := hide (Out.weak (unhide O0) (G := fun q => q ≤ w.heap.size + 1 + 1) (fun q _ e => Nat.le_of_eq e)); have OD11 := hide (OwnDev.out (unhide OD10) (unhide O1) (unhide LD)); have SI11 := hide ((unhide SI10).out (unhide O1) (unhide LIX)); have SO11 := hide (Out.own (unhide O1) (unhide SO10) (unhide LO)); have SC11 := hide (Out.own (unhide O1) (unhide SC10) (unhide LC)); have SN11 := hide ((unhide SN10).out (unhide O1) (unhide LIX)); clear X0 O0 O1 Y10 P10 X10 B10 OD10 SI10 SO10 SC10 SN10)
    | (refine wpList_load_part rfl 70 (.tmp 3) rfl (w.heap.size + 1 + 1) 0 rfl 70 _ [.bool up, .int .i64 now, .int .i64 su, .slice (some ⟨g1, 0, none⟩) D.words.length D.words.length, .slice (some ⟨g2, 0, none⟩) D.flights.length D.flights.length, .slice (some ⟨g3, 0, none⟩) D.over.length D.over.length, .slice (some ⟨gI, 0, none⟩) LI.length LI.length, .int .i64 fr, .slice (some ⟨gB, 0, none⟩) bl.length bl.length, .slice (some ⟨gC, 0, none⟩) cl.length cl.length, .slice (some ⟨gN, 0, none⟩) LN.length LN.length] (unhide Y11) rfl _ Try.underlying70 rfl (by kernel_rfl) ?_)
    | (refine wpList_store_part rfl 70 (.tmp 2) (.tmp 36) rfl (w.heap.size + 1) 0 _ rfl rfl 70 _ (unhide X11) (by kernel_rfl) (by simp) (by simp [Value.oneCell']) ?_; intro wZ XZ OZ))
  have XR : Hid (Box wZ (w.heap.size + 1) [.bool up, .int .i64 now, .int .i64 su, .slice (some ⟨g1, 0, none⟩) D.words.length D.words.length, .slice (some ⟨g2, 0, none⟩) D.flights.length D.flights.length, .slice (some ⟨g3, 0, none⟩) D.over.length D.over.length, .slice (some ⟨gI, 0, none⟩) LI.length LI.length, .int .i64 fr, .slice (some ⟨gB, 0, none⟩) bl.length bl.length, .slice (some ⟨gC, 0, none⟩) cl.length cl.length, .slice (some ⟨gN, 0, none⟩) LN.length LN.length] 70) := XZ
  have BR : Hid (Below w.heap.size w wZ) := (unhide OZ).below (unhide B11) (Nat.le_refl _) (fun q hq e => by omega)
  have OZ1 := hide (Out.weak (unhide OZ) (G := fun q => q ≤ w.heap.size + 1 + 1) (fun q _ e => Nat.le_succ_of_le (Nat.le_of_eq e)))
  have ODZ := hide (OwnDev.out (unhide OD11) (unhide OZ1) (unhide LD))
  have SIZ := hide ((unhide SI11).out (unhide OZ1) (unhide LIX))
  have SOZ := hide (Out.own (unhide OZ1) (unhide SO11) (unhide LO))
  have SCZ := hide (Out.own (unhide OZ1) (unhide SC11) (unhide LC))
  have SNZ := hide ((unhide SN11).out (unhide OZ1) (unhide LIX))
  clear XZ OZ OZ1 X11 Y11 B11 P11 OD11 SI11 SO11 SC11 SN11
  refine bodyPost_ret (results_cell_row Try.results23 _ wZ (w.heap.size + 1) 70 _ (0, 0) _ rfl (unhide XR) Try.underlying70 rfl (by kernel_rfl)) rfl ⟨⟨⟨up, now, su, D, some ⟨g1, 0, none⟩, some ⟨g2, 0, none⟩, some ⟨g3, 0, none⟩, D.words.length, D.flights.length, D.over.length, LI', some ⟨gI, 0, none⟩, LI.length, fr, bl, some ⟨gB, 0, none⟩, bl.length, cl, some ⟨gC, 0, none⟩, cl.length, LN', some ⟨gN, 0, none⟩, LN.length⟩, ?_, ⟨rfl, rfl, rfl, rfl, unhide EI, rfl, rfl, rfl, unhide EN⟩, ⟨(unhide ODZ).base (by omega), ⟨gI, rfl, (unhide SIZ).mono (by omega)⟩, own_base (unhide SOZ) (fun q hq => by have := unhide LO q hq; omega), own_base (unhide SCZ) (fun q hq => by have := unhide LC q hq; omega), ⟨gN, rfl, (unhide SNZ).mono (by omega)⟩⟩⟩, unhide BR⟩
  have e1 := unhide LLI
  have e2 := unhide LLN
  simp only [StaA.cells, e1, e2]
theorem toState_any (x : StaA) (w : World) (h : x.side w) (hl : x.lens 1048576) :
    Calls Try.prog 23 #[.agg #[.bool x.up, .int .i64 x.now, .int .i64 x.su, .slice x.a1 x.D.words.length x.c1, .slice x.a2 x.D.flights.length x.c2, .slice x.a3 x.D.over.length x.c3, .slice x.aI x.LI.length x.cI, .int .i64 x.fr, .slice x.aB x.bl.length x.cB, .slice x.aC x.cl.length x.cC, .slice x.aN x.LN.length x.cN]] w fun r w' => (∃ y : StaA, r = .returned (.agg y.cells.toArray) ∧ y.like x ∧ y.side w') ∧ Below w.heap.size w w' :=
  (toState_own x w h hl).mono fun _ _ ⟨⟨y, h1, h2, h3⟩, hb⟩ => ⟨⟨y, h1, h2, h3.side⟩, hb⟩
end Go.Proofs.Ytaadbgebcknfkaa
