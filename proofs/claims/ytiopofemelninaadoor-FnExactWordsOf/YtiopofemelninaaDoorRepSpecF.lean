/-
  What spec.l9Reply answers.
-/
import Derived.Test.YtiopofemelninaaDoorNfMath
import Derived.Test.YtiopofemelninaaDoorInWalk
namespace Go.Proofs.YtiopofemelninaaDoor
open Go.RowKit
set_option linter.unusedVariables false

set_option maxRecDepth 20000 in
set_option maxHeartbeats 2000000 in
theorem l9Reply_any (b o : Nat) (rc : Int) (rn : List Int) (rs : List ByteArray) (a2 a3 : Option Addr) (c2 c3 : Nat) (w : World) (x0 : w.cell? ⟨b, o, none⟩ = some (.int .i64 rc)) (x1 : w.cell? ⟨b, o + 1, none⟩ = some (.slice a2 rn.length c2)) (x2 : w.cell? ⟨b, o + 2, none⟩ = some (.slice a3 rs.length c3)) (h2 : IntsAt w a2 rn) (h3 : StrsAt w a3 rs) (hs : ∀ s ∈ rs, s.size ≤ maxLen) :
    Calls Tryd.prog 30 #[.pointer (some ⟨b, o, none⟩)] w fun r w' => r = .returned (.int .i64 (repCode rc rn rs)) ∧ w' = w := by
  have H2 := hide h2
  have H3 := hide h3
  have HS := hide hs
  clear h2 h3 hs
  cases hrc : inB rc 0 9
  · have HV : Hid (repCode rc rn rs = 3) := by rw [Hid, repCode, hrc]; rfl
    go_enter Tryd.func30, Tryd.ntmps30
    go_wp2_with (go_at_call 45; refine (l1In_any _ _ _ _).mono ?_; rintro r w1 ⟨rfl, rfl⟩; rw [hrc])
    go_ret
    exact ⟨ret_int (unhide HV).symm, rfl⟩
  have HC : Hid (repCode rc rn rs = (if (16 : Int) < rn.length then 2 else if (60 : Int) < rs.length then 2 else if numsB rn = true then (if allNames rs = true then 0 else 5) else 3)) := by rw [Hid, repCode, if_pos hrc]
  by_cases h16 : (16 : Int) < rn.length
  · have HV : Hid (repCode rc rn rs = 2) := by rw [Hid, unhide HC, if_pos h16]
    clear HC
    go_enter Tryd.func30, Tryd.ntmps30
    go_wp2_with (go_at_call 45; refine (l1In_any _ _ _ _).mono ?_; rintro r w1 ⟨rfl, rfl⟩; rw [hrc])
    go_ret
    exact ⟨ret_int (unhide HV).symm, rfl⟩
  by_cases h60 : (60 : Int) < rs.length
  · have HV : Hid (repCode rc rn rs = 2) := by rw [Hid, unhide HC, if_neg h16, if_pos h60]
    clear HC
    go_enter Tryd.func30, Tryd.ntmps30
    go_wp2_with (go_at_call 45; refine (l1In_any _ _ _ _).mono ?_; rintro r w1 ⟨rfl, rfl⟩; rw [hrc])
    go_ret
    exact ⟨ret_int (unhide HV).symm, rfl⟩
  have HE : Hid (repCode rc rn rs = (if numsB rn = true then (if allNames rs = true then 0 else 5) else 3)) := by rw [Hid, unhide HC, if_neg h16, if_neg h60]
  clear HC
  go_enter Tryd.func30, Tryd.ntmps30
  go_wp2_with (go_at_call 45; refine (l1In_any _ _ _ _).mono ?_; rintro r w1 ⟨rfl, rfl⟩; rw [hrc])
  go_loop [3] (fun i => ∃ n : Nat, n ≤ rn.length ∧ i = .int .i64 n ∧ Hid (numsB rn = numsB (rn.drop n))) (fun i => rn.length - (intOf i).toNat)
  case atStart => exact ⟨0, Nat.zero_le _, rfl, rfl⟩
  case round =>
    obtain ⟨n, hn2, rfl, HX⟩ := hrel
    by_cases hlt : n < rn.length
    · obtain ⟨b1, o1, rfl, hb1, hc1⟩ := (unhide H2).at hlt
      have hc := hc1 n hlt
      have hst := numsB_drop hlt
      clear hc1
      generalize rn[n] = x at *
      cases hx : inB x 0 9999
      · have HV : Hid (repCode rc rn rs = 3) := by rw [Hid, unhide HE, unhide HX, hst, hx]; rfl
        clear hst HX HE
        go_wp2_with (go_at_call 45; refine (l1In_any _ _ _ _).mono ?_; rintro r w1 ⟨rfl, rfl⟩; rw [hx])
        go_ret
        exact ⟨ret_int (unhide HV).symm, rfl⟩
      · have HY : Hid (numsB rn = numsB (rn.drop (n + 1))) := by rw [Hid, unhide HX, hst, hx]; rfl
        clear hst HX HE
        go_wp2_with (go_at_call 45; refine (l1In_any _ _ _ _).mono ?_; rintro r w1 ⟨rfl, rfl⟩; rw [hx])
        go_round
        case rel => exact ⟨n + 1, by omega, by go_num, HY⟩
        case measure => simp [intOf]; omega
    · have HY : Hid (repCode rc rn rs = (if allNames rs = true then 0 else 5)) := by rw [Hid, unhide HE, unhide HX, numsB_end (by omega), if_pos rfl]
      clear HX HE H2
      go_wp2_with fail
      go_loop [4] (fun i => ∃ m : Nat, m ≤ rs.length ∧ i = .int .i64 m ∧ Hid (allNames rs = allNames (rs.drop m))) (fun i => rs.length - (intOf i).toNat)
      case atStart => exact ⟨0, Nat.zero_le _, rfl, rfl⟩
      case round =>
        obtain ⟨m, hm2, rfl, HX⟩ := hrel
        by_cases hlt2 : m < rs.length
        · obtain ⟨b1, o1, rfl, hb1, hc1⟩ := (unhide H3).at hlt2
          have hc := hc1 m hlt2
          have hst := allNames_drop hlt2
          have hsz := unhide HS rs[m] (List.getElem_mem hlt2)
          clear hc1
          generalize rs[m] = s at *
          cases hx : isNameL s.data.toList
          · have HV : Hid (repCode rc rn rs = 5) := by rw [Hid, unhide HY, unhide HX, hst, hx]; rfl
            clear hst HX HY
            go_wp2_with fail
            refine (specIsName_any _ _ hsz).mono ?_
            rintro r w1 ⟨rfl, rfl⟩
            rw [hx]
            go_wp2_with fail
            go_ret
            exact ⟨ret_int (unhide HV).symm, rfl⟩
          · have HZ : Hid (allNames rs = allNames (rs.drop (m + 1))) := by rw [Hid, unhide HX, hst, hx]; rfl
            clear hst HX HY
            go_wp2_with fail
            refine (specIsName_any _ _ hsz).mono ?_
            rintro r w1 ⟨rfl, rfl⟩
            rw [hx]
            go_wp2_with fail
            go_round
            case rel => exact ⟨m + 1, by omega, by go_num, HZ⟩
            case measure => simp [intOf]; omega
        · have HV : Hid (repCode rc rn rs = 0) := by rw [Hid, unhide HY, unhide HX, allNames_end (by omega), if_pos rfl]
          clear HX HY
          go_wp2_with fail
          go_ret
          exact ⟨ret_int (unhide HV).symm, rfl⟩
end Go.Proofs.YtiopofemelninaaDoor
