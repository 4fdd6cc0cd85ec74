/-
  What spec.OpFault and spec.IsMutation answer.
-/
import Derived.Test.YtcmekhpphgkglaaDoorOpSpec
import Derived.Test.YtcmekhpphgkglaaDoorPathNamesWalk
import Derived.Test.YtcmekhpphgkglaaDoorNumsWalk
import Derived.Test.YtcmekhpphgkglaaDoorRowMath
import Derived.Test.YtcmekhpphgkglaaDoorWideBox
namespace Go.Proofs.YtcmekhpphgkglaaDoor
open Go.RowKit
set_option linter.unusedVariables false

set_option maxRecDepth 20000 in
set_option maxHeartbeats 4000000 in
theorem specOpFault_any (k : Int) (p t : ByteArray) (d : Bool) (i : Int) (nl : List Int) (a : Option Addr) (c : Nat) (w : World) (h : IntsAt w a nl) (hn : nl.length ≤ 1048576) (hp : p.size ≤ 1048576) (ht : t.size ≤ 1048576) :
    Calls Tryd.prog 44 #[.agg #[.int .i64 k, .string p, .string t, .bool d, .int .i64 i, .slice a nl.length c]] w fun r w' => r = .returned (.int .i64 (opCode k p t d i nl)) ∧ Below w.heap.size w w' := by
  obtain ⟨W, hW, hWz, HB0, HX0⟩ := boxes1 w [.int .i64 k, .string p, .string t, .bool d, .int .i64 i, .slice a nl.length c] 61
  have H := hide (h.below (unhide HB0))
  clear h
  have hfd : ∀ (x : Int) (v : Value) (w : World), (Instr.field 70 (.agg #[.int .i64 x, v]) 0).run Tryd.prog w = .ok (.int .i64 x) w := fun x v w => by kernel_rfl
  cases hf : opForm k p t d i nl
  · have HV : Hid (opCode k p t d i nl = 1) := by rw [Hid, opCode, hf]; rfl
    go_enter Tryd.func44, Tryd.ntmps44
    go_wp2_with fail
    rw [← hW]
    clear hW
    refine (l5Form_any k p t d i nl _ a c _ _ (unhide HX0)).mono ?_
    rintro r w1 ⟨rfl, rfl⟩
    rw [hf]
    go_wp2_with fail
    go_ret
    exact ⟨ret_int (unhide HV).symm, unhide HB0⟩
  have HC := hide (opCode_yes hf)
  have HF := hide hf
  clear hf
  by_cases h8 : k = 8
  · subst h8
    have HC' : Hid (opCode 8 p t d i nl = if inB i 0 4 = true then 0 else 3) := by
      rw [Hid, unhide HC, or0_right (by simp), or0_right (by simp)]; simp
    clear HC
    go_enter Tryd.func44, Tryd.ntmps44
    go_wp2_with fail
    rw [← hW]
    clear hW
    refine (l5Form_any 8 p t d i nl _ a c _ _ (unhide HX0)).mono ?_
    rintro r w1 ⟨rfl, rfl⟩
    rw [unhide HF]
    have q0 := (unhide HX0).cell 0
    have q4 := (unhide HX0).cell 4
    simp only [List.getElem?_cons_zero, List.getElem?_cons_succ] at q0 q4
    go_wp2_with fail
    refine (l1In_any i 0 4 _).mono ?_
    rintro r w1 ⟨rfl, rfl⟩
    cases hin : inB i 0 4
    · rw [hin] at HC'
      go_wp2_with fail
      go_ret
      exact ⟨ret_int (unhide HC').symm, unhide HB0⟩
    · rw [hin] at HC'
      go_wp2_with fail
      go_ret
      exact ⟨ret_int (unhide HC').symm, unhide HB0⟩
  have h8b : (k != 8) = true := by simpa using h8
  by_cases hpc : pnCode p.data.toList = 0
  case neg =>
    have HC' : Hid (opCode k p t d i nl = pnCode p.data.toList) := by
      rw [Hid, unhide HC, if_neg h8, or0_left hpc]
    have hpb := neq_true hpc
    clear HC h8 hpc
    go_enter Tryd.func44, Tryd.ntmps44
    go_wp2_with fail
    rw [← hW]
    clear hW
    refine (l5Form_any k p t d i nl _ a c _ _ (unhide HX0)).mono ?_
    rintro r w1 ⟨rfl, rfl⟩
    rw [unhide HF]
    have q0 := (unhide HX0).cell 0
    have q1 := (unhide HX0).cell 1
    simp only [List.getElem?_cons_zero, List.getElem?_cons_succ] at q0 q1
    go_wp2_with fail
    refine (specPathNames_any p _ hp).mono ?_
    rintro r w2 ⟨⟨v, ps, rfl, -, ho⟩, hb2⟩
    obtain ⟨g2, e2, rfl, -, -, -⟩ := strsAt_own ho
    clear ho
    have B2 := hide (below_step (unhide HB0) hb2 (by omega))
    clear hb2 HB0 HX0 H q0 q1
    go_wp2_with fail
    go_ret
    exact ⟨ret_int (unhide HC').symm, unhide B2⟩
  have hpb := neq_false hpc
  by_cases h5 : k = 5
  · subst h5
    by_cases htc : pnCode t.data.toList = 0
    · have HC' : Hid (opCode 5 p t d i nl = if inB i 0 4 = true then 0 else 3) := by
        rw [Hid, unhide HC, if_neg h8, or0_right hpc, or0_right (by simpa using htc)]; simp
      have htb := neq_false htc
      have HP := hide hpc
      have HT := hide htc
      clear HC h8 hpc htc
      go_enter Tryd.func44, Tryd.ntmps44
      go_wp2_with fail
      rw [← hW]
      clear hW
      refine (l5Form_any 5 p t d i nl _ a c _ _ (unhide HX0)).mono ?_
      rintro r w1 ⟨rfl, rfl⟩
      rw [unhide HF]
      have q0 := (unhide HX0).cell 0
      have q1 := (unhide HX0).cell 1
      simp only [List.getElem?_cons_zero, List.getElem?_cons_succ] at q0 q1
      go_wp2_with fail
      refine (specPathNames_any p _ hp).mono ?_
      rintro r w2 ⟨⟨v, ps, rfl, -, ho⟩, hb2⟩
      obtain ⟨g2, e2, rfl, -, -, -⟩ := strsAt_own ho
      clear ho
      have B2 := hide (below_step (unhide HB0) hb2 (by omega))
      have X2 := hide ((unhide HX0).below hb2)
      have z2 := hb2.size
      clear hb2 HB0 HX0 H q0 q1
      have q0 := (unhide X2).cell 0
      have q2 := (unhide X2).cell 2
      simp only [List.getElem?_cons_zero, List.getElem?_cons_succ] at q0 q2
      go_wp2_with fail
      refine (specPathNames_any t _ ht).mono ?_
      rintro r w3 ⟨⟨v3, ps3, rfl, -, ho⟩, hb3⟩
      obtain ⟨g3, e3, rfl, -, -, -⟩ := strsAt_own ho
      clear ho
      have B3 := hide (below_step (unhide B2) hb3 (by omega))
      have X3 := hide ((unhide X2).below hb3)
      have z3 := hb3.size
      clear hb3 B2 X2 q0 q2
      have q0 := (unhide X3).cell 0
      have q4 := (unhide X3).cell 4
      simp only [List.getElem?_cons_zero, List.getElem?_cons_succ] at q0 q4
      go_wp2_with fail
      refine (l1In_any i 0 4 _).mono ?_
      rintro r w4 ⟨rfl, rfl⟩
      cases hin : inB i 0 4
      · rw [hin] at HC'
        go_wp2_with fail
        go_ret
        exact ⟨ret_int (unhide HC').symm, unhide B3⟩
      · rw [hin] at HC'
        go_wp2_with fail
        go_ret
        exact ⟨ret_int (unhide HC').symm, unhide B3⟩
    · have HC' : Hid (opCode 5 p t d i nl = pnCode t.data.toList) := by
        rw [Hid, unhide HC, if_neg h8, or0_right hpc, if_pos rfl, or0_left htc]
      have htb := neq_true htc
      clear HC h8 hpc htc
      go_enter Tryd.func44, Tryd.ntmps44
      go_wp2_with fail
      rw [← hW]
      clear hW
      refine (l5Form_any 5 p t d i nl _ a c _ _ (unhide HX0)).mono ?_
      rintro r w1 ⟨rfl, rfl⟩
      rw [unhide HF]
      have q0 := (unhide HX0).cell 0
      have q1 := (unhide HX0).cell 1
      simp only [List.getElem?_cons_zero, List.getElem?_cons_succ] at q0 q1
      go_wp2_with fail
      refine (specPathNames_any p _ hp).mono ?_
      rintro r w2 ⟨⟨v, ps, rfl, -, ho⟩, hb2⟩
      obtain ⟨g2, e2, rfl, -, -, -⟩ := strsAt_own ho
      clear ho
      have B2 := hide (below_step (unhide HB0) hb2 (by omega))
      have X2 := hide ((unhide HX0).below hb2)
      have z2 := hb2.size
      clear hb2 HB0 HX0 H q0 q1
      have q0 := (unhide X2).cell 0
      have q2 := (unhide X2).cell 2
      simp only [List.getElem?_cons_zero, List.getElem?_cons_succ] at q0 q2
      go_wp2_with fail
      refine (specPathNames_any t _ ht).mono ?_
      rintro r w3 ⟨⟨v3, ps3, rfl, -, ho⟩, hb3⟩
      obtain ⟨g3, e3, rfl, -, -, -⟩ := strsAt_own ho
      clear ho
      have B3 := hide (below_step (unhide B2) hb3 (by omega))
      clear hb3 B2 X2 q0 q2
      go_wp2_with fail
      go_ret
      exact ⟨ret_int (unhide HC').symm, unhide B3⟩
  have h5b : (k == 5) = false := by simpa using h5
  have H8 := hide h8
  have H5 := hide h5
  have HP := hide hpc
  clear h8 h5 hpc
  have enter : ∀ (lim : Int), lim = (if k = 2 then 3 else 4) → opCode k p t d i nl = if inB i 0 lim = true then (if k = 2 then numsCode nl else 0) else 3 := by
    rintro lim rfl
    rw [unhide HC, if_neg (unhide H8), or0_right (unhide HP), if_neg (unhide H5), or0_right rfl]
  have EN := hide enter
  clear enter HC
  by_cases h2 : k = 2
  · subst h2
    have HC' : Hid (opCode 2 p t d i nl = if inB i 0 3 = true then numsCode nl else 3) := by
      have := unhide EN 3 (by simp); simpa [Hid] using this
    clear EN
    go_enter Tryd.func44, Tryd.ntmps44
    go_wp2_with fail
    rw [← hW]
    clear hW
    refine (l5Form_any 2 p t d i nl _ a c _ _ (unhide HX0)).mono ?_
    rintro r w1 ⟨rfl, rfl⟩
    rw [unhide HF]
    have q0 := (unhide HX0).cell 0
    have q1 := (unhide HX0).cell 1
    simp only [List.getElem?_cons_zero, List.getElem?_cons_succ] at q0 q1
    go_wp2_with fail
    refine (specPathNames_any p _ hp).mono ?_
    rintro r w2 ⟨⟨v, ps, rfl, -, ho⟩, hb2⟩
    obtain ⟨g2, e2, rfl, -, -, -⟩ := strsAt_own ho
    clear ho
    have B2 := hide (below_step (unhide HB0) hb2 (by omega))
    have X2 := hide ((unhide HX0).below hb2)
    have I2 := hide ((unhide H).below hb2)
    have z2 := hb2.size
    clear hb2 HB0 HX0 H q0 q1
    have q0 := (unhide X2).cell 0
    have q4 := (unhide X2).cell 4
    have q5 := (unhide X2).cell 5
    simp only [List.getElem?_cons_zero, List.getElem?_cons_succ] at q0 q4 q5
    go_wp2_with fail
    refine (l1In_any i 0 3 _).mono ?_
    rintro r w4 ⟨rfl, rfl⟩
    cases hin : inB i 0 3
    · rw [hin] at HC'
      go_wp2_with fail
      go_ret
      exact ⟨ret_int (unhide HC').symm, unhide B2⟩
    · rw [hin] at HC'
      go_wp2_with fail
      refine (specNumbersFault_any a c nl _ (unhide I2) hn).mono ?_
      rintro r w5 ⟨rfl, rfl⟩
      go_wp2_with fail
      go_ret
      exact ⟨ret_int (unhide HC').symm, unhide B2⟩
  have h2b : (k == 2) = false := by simpa using h2
  have HC' : Hid (opCode k p t d i nl = if inB i 0 4 = true then 0 else 3) := by
    have := unhide EN 4 (by simp [h2]); simpa [Hid, h2] using this
  clear EN h2
  go_enter Tryd.func44, Tryd.ntmps44
  go_wp2_with fail
  rw [← hW]
  clear hW
  refine (l5Form_any k p t d i nl _ a c _ _ (unhide HX0)).mono ?_
  rintro r w1 ⟨rfl, rfl⟩
  rw [unhide HF]
  have q0 := (unhide HX0).cell 0
  have q1 := (unhide HX0).cell 1
  simp only [List.getElem?_cons_zero, List.getElem?_cons_succ] at q0 q1
  go_wp2_with fail
  refine (specPathNames_any p _ hp).mono ?_
  rintro r w2 ⟨⟨v, ps, rfl, -, ho⟩, hb2⟩
  obtain ⟨g2, e2, rfl, -, -, -⟩ := strsAt_own ho
  clear ho
  have B2 := hide (below_step (unhide HB0) hb2 (by omega))
  have X2 := hide ((unhide HX0).below hb2)
  have z2 := hb2.size
  clear hb2 HB0 HX0 H q0 q1
  have q0 := (unhide X2).cell 0
  have q4 := (unhide X2).cell 4
  simp only [List.getElem?_cons_zero, List.getElem?_cons_succ] at q0 q4
  go_wp2_with fail
  refine (l1In_any i 0 4 _).mono ?_
  rintro r w4 ⟨rfl, rfl⟩
  cases hin : inB i 0 4
  · rw [hin] at HC'
    go_wp2_with fail
    go_ret
    exact ⟨ret_int (unhide HC').symm, unhide B2⟩
  · rw [hin] at HC'
    go_wp2_with fail
    go_ret
    exact ⟨ret_int (unhide HC').symm, unhide B2⟩
end Go.Proofs.YtcmekhpphgkglaaDoor
