/-
  What spec.SameStates answers.
-/
import Derived.Test.YtdnfadbkpajloaaStateMath
import Derived.Test.YtdnfadbkpajloaaBoolWalk
import Derived.Test.YtdnfadbkpajloaaItemSpec
import Derived.Test.YtdnfadbkpajloaaNoteSpec
import Derived.BigQuiet
import Derived.Deep.QuietTactic
namespace Go.Proofs.Ytdnfadbkpajloaa
open Go.RowKit
set_option linter.unusedVariables false

set_option maxRecDepth 20000 in
set_option maxHeartbeats 8000000 in
theorem specSameStates_any (x y : StaA) (w : World) (h : x.side w) (h2 : y.side w) (hl : x.lens 1048576) (hl2 : y.lens 1048576) :
    Calls Try.prog 63 #[.agg #[.bool x.up, .int .i64 x.now, .int .i64 x.su, .slice x.a1 x.D.words.length x.c1, .slice x.a2 x.D.flights.length x.c2, .slice x.a3 x.D.over.length x.c3, .slice x.aI x.LI.length x.cI, .int .i64 x.fr, .slice x.aB x.bl.length x.cB, .slice x.aC x.cl.length x.cC, .slice x.aN x.LN.length x.cN], .agg #[.bool y.up, .int .i64 y.now, .int .i64 y.su, .slice y.a1 y.D.words.length y.c1, .slice y.a2 y.D.flights.length y.c2, .slice y.a3 y.D.over.length y.c3, .slice y.aI y.LI.length y.cI, .int .i64 y.fr, .slice y.aB y.bl.length y.cB, .slice y.aC y.cl.length y.cC, .slice y.aN y.LN.length y.cN]] w fun r w' => r = .returned (.bool (sameSta x y)) ∧ Below w.heap.size w w' := by
  obtain ⟨up, now, su, D, a1, a2, a3, c1, c2, c3, LI, aI, cI, fr, bl, aB, cB, cl, aC, cC, LN, aN, cN⟩ := x
  obtain ⟨up', now', su', D', a1', a2', a3', c1', c2', c3', LI', aI', cI', fr', bl', aB', cB', cl', aC', cC', LN', aN', cN'⟩ := y
  obtain ⟨hd, hit, hbo, hcs, hns⟩ := h
  obtain ⟨hd2, hit2, hbo2, hcs2, hns2⟩ := h2
  obtain ⟨m1, m2, m3, mI, mB, mC, mN⟩ := hl
  have mI' := hl2.lI
  have mN' := hl2.lN
  clear hl2
  simp only at hd hit hbo hcs hns m1 m2 m3 mI mB mC mN hd2 hit2 hbo2 hcs2 hns2 mI' mN'
  have MI := hide mI
  have MN := hide mN
  have MI' := hide mI'
  have MN' := hide mN'
  clear mI mN mI' mN'
  obtain ⟨W, hW, hWz, HB0, HX0, HY0⟩ := boxes2 w [.bool up, .int .i64 now, .int .i64 su, .slice a1 D.words.length c1, .slice a2 D.flights.length c2, .slice a3 D.over.length c3, .slice aI LI.length cI, .int .i64 fr, .slice aB bl.length cB, .slice aC cl.length cC, .slice aN LN.length cN] [.bool up', .int .i64 now', .int .i64 su', .slice a1' D'.words.length c1', .slice a2' D'.flights.length c2', .slice a3' D'.over.length c3', .slice aI' LI'.length cI', .int .i64 fr', .slice aB' bl'.length cB', .slice aC' cl'.length cC', .slice aN' LN'.length cN'] 98 98
  have S1 := hide (show StaA.side W ⟨up, now, su, D, a1, a2, a3, c1, c2, c3, LI, aI, cI, fr, bl, aB, cB, cl, aC, cC, LN, aN, cN⟩ from StaA.side.below (x := ⟨up, now, su, D, a1, a2, a3, c1, c2, c3, LI, aI, cI, fr, bl, aB, cB, cl, aC, cC, LN, aN, cN⟩) ⟨hd, hit, hbo, hcs, hns⟩ (unhide HB0))
  have S2 := hide (show StaA.side W ⟨up', now', su', D', a1', a2', a3', c1', c2', c3', LI', aI', cI', fr', bl', aB', cB', cl', aC', cC', LN', aN', cN'⟩ from StaA.side.below (x := ⟨up', now', su', D', a1', a2', a3', c1', c2', c3', LI', aI', cI', fr', bl', aB', cB', cl', aC', cC', LN', aN', cN'⟩) ⟨hd2, hit2, hbo2, hcs2, hns2⟩ (unhide HB0))
  clear hd hit hbo hcs hns hd2 hit2 hbo2 hcs2 hns2
  have HV : Hid (sameSta ⟨up, now, su, D, a1, a2, a3, c1, c2, c3, LI, aI, cI, fr, bl, aB, cB, cl, aC, cC, LN, aN, cN⟩ ⟨up', now', su', D', a1', a2', a3', c1', c2', c3', LI', aI', cI', fr', bl', aB', cB', cl', aC', cC', LN', aN', cN'⟩ = ((up == up') && ((now == now') && ((su == su') && ((fr == fr') && (sameDev D D' && (sameItms LI LI' && (decide (bl = bl') && (decide (cl = cl') && sameNtes LN LN'))))))))) := rfl
  generalize sameSta ⟨up, now, su, D, a1, a2, a3, c1, c2, c3, LI, aI, cI, fr, bl, aB, cB, cl, aC, cC, LN, aN, cN⟩ ⟨up', now', su', D', a1', a2', a3', c1', c2', c3', LI', aI', cI', fr', bl', aB', cB', cl', aC', cC', LN', aN', cN'⟩ = vr at *
  cases hu : (up == up')
  · have HF : Hid (vr = false) := by rw [Hid, unhide HV, hu]; simp
    clear HV
    have hum : (up != up') = true := by rw [bne, hu]; rfl
    go_enter Try.func63, Try.ntmps63
    go_wp2_with fail
    go_ret
    exact ⟨ret_bool (unhide HF).symm, by rw [← hW]; exact unhide HB0⟩
  cases hn0 : (now == now')
  · have HF : Hid (vr = false) := by rw [Hid, unhide HV, hn0]; simp
    clear HV
    have hum : (up != up') = false := by rw [bne, hu]; rfl
    have hnm : (now != now') = true := by rw [bne, hn0]; rfl
    go_enter Try.func63, Try.ntmps63
    go_wp2_with fail
    go_ret
    exact ⟨ret_bool (unhide HF).symm, by rw [← hW]; exact unhide HB0⟩
  cases hs0 : (su == su')
  · have HF : Hid (vr = false) := by rw [Hid, unhide HV, hs0]; simp
    clear HV
    have hum : (up != up') = false := by rw [bne, hu]; rfl
    have hnm : (now != now') = false := by rw [bne, hn0]; rfl
    have hsm : (su != su') = true := by rw [bne, hs0]; rfl
    go_enter Try.func63, Try.ntmps63
    go_wp2_with fail
    go_ret
    exact ⟨ret_bool (unhide HF).symm, by rw [← hW]; exact unhide HB0⟩
  have hum : (up != up') = false := by rw [bne, hu]; rfl
  have hnm : (now != now') = false := by rw [bne, hn0]; rfl
  have hsm : (su != su') = false := by rw [bne, hs0]; rfl
  go_enter Try.func63, Try.ntmps63
  go_wp2_with fail
  rw [← hW]
  clear hW
  refine (specSameDevices_any a1 a2 a3 a1' a2' a3' c1 c2 c3 c1' c2' c3' D D' _ (unhide S1).dev (unhide S2).dev m1 m2 m3).mono ?_
  rintro r w2 ⟨rfl, hb⟩
  have S12 := hide ((unhide S1).below hb)
  have S22 := hide ((unhide S2).below hb)
  have X2 := hide ((unhide HX0).below hb)
  have Y2 := hide ((unhide HY0).below hb)
  have B2 := hide (below_step (unhide HB0) hb (by omega))
  have z2 := hb.size
  clear hb S1 S2 HX0 HY0 HB0
  have p6 := (unhide X2).cell 6
  simp only [List.getElem?_cons_zero, List.getElem?_cons_succ] at p6
  have q6 := (unhide Y2).cell 6
  simp only [List.getElem?_cons_zero, List.getElem?_cons_succ] at q6
  generalize sameDev D D' = bb at *
  cases bb
  · have HF : Hid (vr = false) := by rw [Hid, unhide HV]; simp
    clear HV
    go_wp2_with fail
    go_ret
    exact ⟨ret_bool (unhide HF).symm, unhide B2⟩
  go_wp2_with fail
  refine (specSameItems_any aI aI' cI cI' LI LI' _ (unhide S12).its (unhide S22).its (unhide MI) (unhide MI')).mono ?_
  rintro r w3 ⟨rfl, hb⟩
  have S13 := hide ((unhide S12).below hb)
  have S23 := hide ((unhide S22).below hb)
  have X3 := hide ((unhide X2).below hb)
  have Y3 := hide ((unhide Y2).below hb)
  have B3 := hide (below_step (unhide B2) hb (by omega))
  have z3 := hb.size
  clear hb S12 S22 X2 Y2 B2 p6 q6
  have p7 := (unhide X3).cell 7
  have p9 := (unhide X3).cell 9
  simp only [List.getElem?_cons_zero, List.getElem?_cons_succ] at p7 p9
  have q7 := (unhide Y3).cell 7
  have q9 := (unhide Y3).cell 9
  simp only [List.getElem?_cons_zero, List.getElem?_cons_succ] at q7 q9
  generalize sameItms LI LI' = bb at *
  cases bb
  · have HF : Hid (vr = false) := by rw [Hid, unhide HV]; simp
    clear HV
    go_wp2_with fail
    go_ret
    exact ⟨ret_bool (unhide HF).symm, unhide B3⟩
  cases hf0 : (fr == fr')
  · have HF : Hid (vr = false) := by rw [Hid, unhide HV, hf0]; simp
    have hfm : (fr != fr') = true := by rw [bne, hf0]; rfl
    clear HV
    go_wp2_with fail
    go_ret
    exact ⟨ret_bool (unhide HF).symm, unhide B3⟩
  have hfm : (fr != fr') = false := by rw [bne, hf0]; rfl
  go_wp2_with fail
  refine (l1Same_any aC aC' cC cC' cl cl' _ (unhide S13).cs (unhide S23).cs mC).mono ?_
  rintro r w4 ⟨rfl, hb⟩
  have S14 := hide ((unhide S13).below hb)
  have S24 := hide ((unhide S23).below hb)
  have X4 := hide ((unhide X3).below hb)
  have Y4 := hide ((unhide Y3).below hb)
  have B4 := hide (below_step (unhide B3) hb (by omega))
  have z4 := hb.size
  clear hb S13 S23 X3 Y3 B3 p7 q7 p9 q9
  have p10 := (unhide X4).cell 10
  simp only [List.getElem?_cons_zero, List.getElem?_cons_succ] at p10
  have q10 := (unhide Y4).cell 10
  simp only [List.getElem?_cons_zero, List.getElem?_cons_succ] at q10
  generalize decide (cl = cl') = bb at *
  cases bb
  · have HF : Hid (vr = false) := by rw [Hid, unhide HV]; simp
    clear HV
    go_wp2_with fail
    go_ret
    exact ⟨ret_bool (unhide HF).symm, unhide B4⟩
  go_wp2_with fail
  refine (specSameNotes_any aN aN' cN cN' LN LN' _ (unhide S14).ns (unhide S24).ns (unhide MN) (unhide MN')).mono ?_
  rintro r w5 ⟨rfl, hb⟩
  have S15 := hide ((unhide S14).below hb)
  have S25 := hide ((unhide S24).below hb)
  have X5 := hide ((unhide X4).below hb)
  have Y5 := hide ((unhide Y4).below hb)
  have B5 := hide (below_step (unhide B4) hb (by omega))
  have z5 := hb.size
  clear hb S14 S24 X4 Y4 B4 p10 q10
  have p8 := (unhide X5).cell 8
  simp only [List.getElem?_cons_zero, List.getElem?_cons_succ] at p8
  have q8 := (unhide Y5).cell 8
  simp only [List.getElem?_cons_zero, List.getElem?_cons_succ] at q8
  generalize sameNtes LN LN' = bb at *
  cases bb
  · have HF : Hid (vr = false) := by rw [Hid, unhide HV]; simp
    clear HV
    go_wp2_with fail
    go_ret
    exact ⟨ret_bool (unhide HF).symm, unhide B5⟩
  have HW : Hid (vr = decide (bl = bl')) := by rw [Hid, unhide HV, hu, hn0, hs0, hf0]; simp
  have hB1 := (unhide S15).bs
  have hB2 := (unhide S25).bs
  simp only at hB1 hB2
  clear HV hu hn0 hs0 hf0 hum hnm hsm hfm S15 S25 X5 Y5 MI MI' MN MN'
  by_cases hlen : bl.length = bl'.length
  case neg =>
    have HF : Hid (vr = false) := by rw [Hid, unhide HW]; exact decide_eq_false (fun e => hlen (by rw [e]))
    have hlm : ((bl.length : Int) != (bl'.length : Int)) = true := by simp; omega
    clear HW hlen
    go_wp2_with fail
    go_ret
    exact ⟨ret_bool (unhide HF).symm, unhide B5⟩
  have hlm : ((bl.length : Int) != (bl'.length : Int)) = false := by simp; omega
  have HL := hide hlen
  clear hlen
  go_wp2_with fail
  clear hlm
  go_loopw [5] (fun i wr => ∃ (k n : Nat), k ≤ bl.length ∧ i = .int .i64 k ∧ wr = w5.drewN n ∧ Hid (∀ j, j < k → bl[j]? = bl'[j]?)) (fun i _ => bl.length - (intOf i).toNat)
  case atStart => exact ⟨0, 0, Nat.zero_le _, rfl, rfl, fun j hj => absurd hj (Nat.not_lt_zero j)⟩
  case round =>
    obtain ⟨k, n, hk, rfl, rfl, HX⟩ := hrel
    by_cases hlt : k < bl.length
    · have hltm : k < bl'.length := by have := unhide HL; omega
      obtain ⟨b1, o1, rfl, _, hc1⟩ := hB1.at hlt
      obtain ⟨b2, o2, rfl, _, hc2⟩ := hB2.at hltm
      have hk1 := hc1 k hlt
      have hk2 := hc2 k hltm
      have hlt' : (k : Int) < bl.length := by omega
      have hltm' : (k : Int) < bl'.length := by omega
      clear hc1 hc2 hB1 hB2
      by_cases he : bl[k] = bl'[k]
      · have HX2 : Hid (∀ j, j < k + 1 → bl[j]? = bl'[j]?) := by
          intro j hj
          by_cases e : j = k
          · subst e; rw [List.getElem?_eq_getElem hlt, List.getElem?_eq_getElem hltm, he]
          · exact unhide HX j (by omega)
        clear HX
        generalize bl[k] = x at *
        generalize bl'[k] = y at *
        subst he
        cases x
        all_goals
          go_wp2_with fail
          go_quiet (fail)
          go_wp2_with fail
          exact ⟨⟨k + 1, _, by omega, by go_num, rfl, HX2⟩, by simp [intOf]; omega⟩
      · have HF : Hid (vr = false) := by rw [Hid, unhide HW]; exact decide_eq_false (fun e => he (by simp [e]))
        clear HX HW
        generalize bl[k] = x at *
        generalize bl'[k] = y at *
        cases x <;> cases y
        all_goals first
          | exact absurd rfl he
          | (clear he
             go_wp2_with fail
             go_quiet (fail)
             go_wp2_with fail
             go_ret
             exact ⟨ret_bool (unhide HF).symm, below_drewN (below_drewN (unhide B5) _) _⟩)
    · have HF : Hid (vr = true) := by
        have hle := unhide HL
        rw [Hid, unhide HW]
        exact decide_eq_true (by
          apply List.ext_getElem?
          intro j
          by_cases hj : j < k
          · exact unhide HX j hj
          · rw [List.getElem?_eq_none (by omega), List.getElem?_eq_none (by omega)])
      clear HX HW hB1 hB2
      go_wp2_with fail
      go_ret
      exact ⟨ret_bool (unhide HF).symm, below_drewN (unhide B5) _⟩
end Go.Proofs.Ytdnfadbkpajloaa
