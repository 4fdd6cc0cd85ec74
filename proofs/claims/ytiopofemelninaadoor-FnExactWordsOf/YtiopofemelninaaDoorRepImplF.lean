/-
  What impl.replyFault answers.
-/
import Derived.Test.YtiopofemelninaaDoorNfMath
import Derived.Test.YtiopofemelninaaDoorInWalk
import Derived.Test.YtiopofemelninaaDoorWideBox
import Derived.Deep.CutRange
namespace Go.Proofs.YtiopofemelninaaDoor
open Go.RowKit
set_option linter.unusedVariables false

set_option maxRecDepth 20000 in
set_option maxHeartbeats 2000000 in
theorem replyFault_any (rc : Int) (rn : List Int) (rs : List ByteArray) (a2 a3 : Option Addr) (c2 c3 : Nat) (w : World) (h2 : IntsAt w a2 rn) (h3 : StrsAt w a3 rs) (hm : rn.length ≤ 1048576) (hl : rs.length ≤ 1048576) (hs : ∀ s ∈ rs, s.size ≤ maxLen) :
    Calls Tryd.prog 34 #[.agg #[.int .i64 rc, .slice a2 rn.length c2, .slice a3 rs.length c3]] w fun r w' => r = .returned (.int .i64 (repCode rc rn rs)) ∧ Below w.heap.size w w' := by
  obtain ⟨W, hW, hWz, HB0, HX0⟩ := boxes1 w [.int .i64 rc, .slice a2 rn.length c2, .slice a3 rs.length c3] 40
  have H2 := hide (h2.below (unhide HB0))
  have H3 := hide (h3.below (unhide HB0))
  have HS := hide hs
  have q0 := (unhide HX0).cell 0
  have q1 := (unhide HX0).cell 1
  have q2 := (unhide HX0).cell 2
  simp only [List.getElem?_cons_zero, List.getElem?_cons_succ] at q0 q1 q2
  clear h2 h3 hs
  cases hrc : inB rc 0 9
  · have HV : Hid (repCode rc rn rs = 3) := by rw [Hid, repCode, hrc]; rfl
    go_enter Tryd.func34, Tryd.ntmps34
    go_upto_region 1 with fail
    rw [← hW]
    clear hW
    go_wp2_with (go_at_call 44; refine (isWithin_any _ _ _ _).mono ?_; rintro r w1 ⟨rfl, rfl⟩; rw [hrc])
    go_ret
    exact ⟨ret_int (unhide HV).symm, unhide HB0⟩
  have HC : Hid (repCode rc rn rs = (if (16 : Int) < rn.length then 2 else if (60 : Int) < rs.length then 2 else if numsB rn = true then (if allNames rs = true then 0 else 5) else 3)) := by rw [Hid, repCode, if_pos hrc]
  by_cases h16 : (16 : Int) < rn.length
  · have HV : Hid (repCode rc rn rs = 2) := by rw [Hid, unhide HC, if_pos h16]
    clear HC
    go_enter Tryd.func34, Tryd.ntmps34
    go_upto_region 1 with fail
    rw [← hW]
    clear hW
    go_wp2_with (go_at_call 44; refine (isWithin_any _ _ _ _).mono ?_; rintro r w1 ⟨rfl, rfl⟩; rw [hrc])
    go_ret
    exact ⟨ret_int (unhide HV).symm, unhide HB0⟩
  by_cases h60 : (60 : Int) < rs.length
  · have HV : Hid (repCode rc rn rs = 2) := by rw [Hid, unhide HC, if_neg h16, if_pos h60]
    clear HC
    go_enter Tryd.func34, Tryd.ntmps34
    go_upto_region 1 with fail
    rw [← hW]
    clear hW
    go_wp2_with (go_at_call 44; refine (isWithin_any _ _ _ _).mono ?_; rintro r w1 ⟨rfl, rfl⟩; rw [hrc])
    go_ret
    exact ⟨ret_int (unhide HV).symm, unhide HB0⟩
  have HE : Hid (repCode rc rn rs = (if numsB rn = true then (if allNames rs = true then 0 else 5) else 3)) := by rw [Hid, unhide HC, if_neg h16, if_neg h60]
  clear HC
  go_enter Tryd.func34, Tryd.ntmps34
  go_upto_region 1 with fail
  rw [← hW]
  clear hW
  go_wp2_with (go_at_call 44; refine (isWithin_any _ _ _ _).mono ?_; rintro r w1 ⟨rfl, rfl⟩; rw [hrc])
  go_loop [22] (fun i => ∃ n : Nat, n ≤ rn.length ∧ i = .int .i64 n ∧ Hid (numsB rn = numsB (rn.drop n))) (fun i => rn.length - (intOf i).toNat)
  case atStart => exact ⟨0, Nat.zero_le _, rfl, rfl⟩
  case round =>
    obtain ⟨n, hn2, rfl, HX⟩ := hrel
    by_cases hlt : n < rn.length
    · obtain ⟨b1, o1, rfl, hb1, hc1⟩ := (unhide H2).at hlt
      have hc := hc1 n hlt
      have hst := numsB_drop hlt
      clear hc1
      generalize rn[n] = x at *
      cases hx : inB x 0 9999
      · have HV : Hid (repCode rc rn rs = 3) := by rw [Hid, unhide HE, unhide HX, hst, hx]; rfl
        clear hst HX HE
        go_wp2_with (go_at_call 44; refine (isWithin_any _ _ _ _).mono ?_; rintro r w1 ⟨rfl, rfl⟩; rw [hx])
        go_ret
        exact ⟨ret_int (unhide HV).symm, unhide HB0⟩
      · have HY : Hid (numsB rn = numsB (rn.drop (n + 1))) := by rw [Hid, unhide HX, hst, hx]; rfl
        clear hst HX HE
        go_wp2_with (go_at_call 44; refine (isWithin_any _ _ _ _).mono ?_; rintro r w1 ⟨rfl, rfl⟩; rw [hx])
        go_round
        case rel => exact ⟨n + 1, by omega, by go_num, HY⟩
        case measure => simp [intOf]; omega
    · have HY : Hid (repCode rc rn rs = (if allNames rs = true then 0 else 5)) := by rw [Hid, unhide HE, unhide HX, numsB_end (by omega), if_pos rfl]
      clear HX HE H2
      go_wp2_with fail
      refine (areNames_any a3 c3 rs _ (unhide H3) (unhide HS) (by unfold maxLen; omega)).mono ?_
      rintro r w5 ⟨rfl, hb5⟩
      have B5 := hide (below_step (unhide HB0) hb5 (by omega))
      clear hb5 HB0
      cases hx : allNames rs
      · have HV : Hid (repCode rc rn rs = 5) := by rw [Hid, unhide HY, hx]; rfl
        clear HY
        go_wp2_with fail
        go_ret
        exact ⟨ret_int (unhide HV).symm, unhide B5⟩
      · have HV : Hid (repCode rc rn rs = 0) := by rw [Hid, unhide HY, hx, if_pos rfl]
        clear HY
        go_wp2_with fail
        go_ret
        exact ⟨ret_int (unhide HV).symm, unhide B5⟩
end Go.Proofs.YtiopofemelninaaDoor
