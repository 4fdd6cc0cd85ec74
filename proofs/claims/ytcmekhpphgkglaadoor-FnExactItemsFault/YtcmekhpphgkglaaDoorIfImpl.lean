/-
  What impl.hasPieces and impl.itemFault answer.
-/
import Derived.Test.YtcmekhpphgkglaaDoorIfBase
import Derived.Test.YtcmekhpphgkglaaDoorOpImpl2
import Derived.Test.YtcmekhpphgkglaaDoorWideBox
import Derived.Deep.CutRange
namespace Go.Proofs.YtcmekhpphgkglaaDoor
open Go.RowKit
set_option linter.unusedVariables false

set_option maxRecDepth 20000 in
set_option maxHeartbeats 1000000 in
theorem hasPieces_any (p : ByteArray) (d : Bool) (n : Nat) (a : Option Addr) (c : Nat) (w : World) :
    Calls Tryd.prog 34 #[.agg #[.string p, .bool d, .slice a n c]] w fun e w' => e = .returned (.bool (piecesB d n)) ∧ Below w.heap.size w w' := by
  obtain ⟨W, hW, hWz, HB0, HX0⟩ := boxes1 w [.string p, .bool d, .slice a n c] 42
  have q1 := (unhide HX0).cell 1
  have q2 := (unhide HX0).cell 2
  simp only [List.getElem?_cons_zero, List.getElem?_cons_succ] at q1 q2
  cases d
  · have HV : Hid (piecesB false n = (((n : Int) % 4 == 0) && decide ((n : Int) ≤ 16))) := rfl
    by_cases hm : (n : Int) % 4 = 0
    · have hmb : ((n : Int) % 4 == 0) = true := by simpa using hm
      have HV2 : Hid (piecesB false n = decide ((n : Int) ≤ 16)) := by rw [Hid, unhide HV, hmb, Bool.true_and]
      clear HV hm
      by_cases hg : (n : Int) ≤ 16
      · have HV3 : Hid (piecesB false n = true) := by rw [Hid, unhide HV2]; exact decide_eq_true hg
        clear HV2
        go_enter Tryd.func34, Tryd.ntmps34
        go_upto_region 1 with fail
        rw [← hW]
        clear hW
        go_wp2_with fail
        go_ret
        exact ⟨ret_bool (unhide HV3).symm, unhide HB0⟩
      · have HV3 : Hid (piecesB false n = false) := by rw [Hid, unhide HV2]; exact decide_eq_false hg
        clear HV2
        go_enter Tryd.func34, Tryd.ntmps34
        go_upto_region 1 with fail
        rw [← hW]
        clear hW
        go_wp2_with fail
        go_ret
        exact ⟨ret_bool (unhide HV3).symm, unhide HB0⟩
    · have hmb : ((n : Int) % 4 == 0) = false := by simpa using hm
      have HV3 : Hid (piecesB false n = false) := by rw [Hid, unhide HV, hmb, Bool.false_and]
      clear HV hm
      go_enter Tryd.func34, Tryd.ntmps34
      go_upto_region 1 with fail
      rw [← hW]
      clear hW
      go_wp2_with fail
      go_ret
      exact ⟨ret_bool (unhide HV3).symm, unhide HB0⟩
  · have HV : Hid (piecesB true n = ((n : Int) == 0)) := rfl
    generalize hz : ((n : Int) == 0) = z at *
    go_enter Tryd.func34, Tryd.ntmps34
    go_upto_region 1 with fail
    rw [← hW]
    clear hW
    go_wp2_with fail
    go_ret
    exact ⟨ret_bool (unhide HV).symm, unhide HB0⟩
set_option maxRecDepth 20000 in
set_option maxHeartbeats 2000000 in
theorem itemFault_any (p : ByteArray) (d : Bool) (l : List Int) (a : Option Addr) (c : Nat) (m : Int) (w : World) (h : IntsAt w a l) (hm : MaxAt w m) (hn : l.length ≤ 1048576) (hs : p.size ≤ 1048576) :
    Calls Tryd.prog 20 #[.agg #[.string p, .bool d, .slice a l.length c]] w fun e w' => e = .returned (.int .i64 (itemC ⟨p, d, l⟩)) ∧ Below w.heap.size w w' := by
  have hfd : ∀ (x : Int) (v : Value) (w : World), (Instr.field 70 (.agg #[.int .i64 x, v]) 0).run Tryd.prog w = .ok (.int .i64 x) w := fun x v w => by kernel_rfl
  obtain ⟨W, hW, hWz, HB0, HX0⟩ := boxes1 w [.string p, .bool d, .slice a l.length c] 42
  have H := hide (h.below (unhide HB0))
  have HM := hide (hm.below (unhide HB0))
  clear h hm
  have q0 := (unhide HX0).cell 0
  simp only [List.getElem?_cons_zero] at q0
  go_enter Tryd.func20, Tryd.ntmps20
  go_upto_region 1 with fail
  rw [← hW]
  clear hW
  go_wp2_with fail
  refine (implPathNames_any p m _ hs (unhide HM).1 (unhide HM).2).mono ?_
  rintro r w2 ⟨⟨v, ps, rfl, -, ho⟩, hb2⟩
  obtain ⟨g2, e2, rfl, -, -, -⟩ := strsAt_own ho
  clear ho
  have B2 := hide (below_step (unhide HB0) hb2 (by omega))
  have H2 := hide ((unhide H).below hb2)
  have X2 := hide ((unhide HX0).below hb2)
  have z2 := hb2.size
  clear hb2 HB0 HX0 H q0 HM
  have q0 := (unhide X2).cell 0
  have q1 := (unhide X2).cell 1
  have q2 := (unhide X2).cell 2
  simp only [List.getElem?_cons_zero, List.getElem?_cons_succ] at q0 q1 q2
  generalize hcd : pnCode p.data.toList = cd at *
  have HC : Hid (itemC ⟨p, d, l⟩ = or0 cd (if isRoot p = true then 1 else if piecesB d l.length = true then (if numsI l = true then 0 else 3) else 1)) := by rw [Hid, itemC, hcd]
  clear hcd
  by_cases hc0 : cd = 0
  case neg =>
    have HV : Hid (itemC ⟨p, d, l⟩ = cd) := by rw [Hid, unhide HC, or0_left hc0]
    have hcb := neq_true hc0
    clear HC hc0
    go_wp2_with fail
    go_ret
    exact ⟨ret_int (unhide HV).symm, unhide B2⟩
  subst hc0
  have HD : Hid (itemC ⟨p, d, l⟩ = (if isRoot p = true then 1 else if piecesB d l.length = true then (if numsI l = true then 0 else 3) else 1)) := (unhide HC).trans (or0_right rfl)
  clear HC
  cases hr : isRoot p
  case true =>
    have HV : Hid (itemC ⟨p, d, l⟩ = 1) := by rw [Hid, unhide HD, hr, if_pos rfl]
    clear HD
    rw [isRoot] at hr
    go_wp2_with fail
    go_ret
    exact ⟨ret_int (unhide HV).symm, unhide B2⟩
  have HE : Hid (itemC ⟨p, d, l⟩ = (if piecesB d l.length = true then (if numsI l = true then 0 else 3) else 1)) := by rw [Hid, unhide HD, hr, if_neg (by decide)]
  clear HD
  rw [isRoot] at hr
  go_wp2_with fail
  refine (hasPieces_any p d l.length a c _).mono ?_
  rintro r w3 ⟨rfl, hb3⟩
  have B3 := hide (below_step (unhide B2) hb3 (by omega))
  have H3 := hide ((unhide H2).below hb3)
  have X3 := hide ((unhide X2).below hb3)
  clear hb3 B2 H2 X2 q0 q1 q2
  have q2 := (unhide X3).cell 2
  simp only [List.getElem?_cons_zero, List.getElem?_cons_succ] at q2
  cases hpc : piecesB d l.length
  · have HV : Hid (itemC ⟨p, d, l⟩ = 1) := by rw [Hid, unhide HE, hpc, if_neg (by decide)]
    clear HE
    go_wp2_with fail
    go_ret
    exact ⟨ret_int (unhide HV).symm, unhide B3⟩
  have HG : Hid (itemC ⟨p, d, l⟩ = if numsI l = true then 0 else 3) := by rw [Hid, unhide HE, hpc, if_pos rfl]
  clear HE hpc
  go_wp2_with fail
  go_loop [24] (fun i => ∃ n : Nat, n ≤ l.length ∧ i = .int .i64 n ∧ Hid (numsI l = numsI (l.drop n))) (fun i => l.length - (intOf i).toNat)
  case atStart => exact ⟨0, Nat.zero_le _, rfl, rfl⟩
  case round =>
    obtain ⟨n, hn2, rfl, HX⟩ := hrel
    by_cases hlt : n < l.length
    · obtain ⟨b1, o1, rfl, hb1, hc1⟩ := (unhide H3).at hlt
      have hc := hc1 n hlt
      have hst := numsI_drop hlt
      clear hc1
      generalize l[n] = x at *
      cases hx : inB x 0 9999
      · have HV : Hid (itemC ⟨p, d, l⟩ = 3) := by rw [Hid, unhide HG, unhide HX, hst, hx]; rfl
        clear hst HX HG
        go_wp2_with (go_at_call 35; refine (isWithin_any _ _ _ _).mono ?_; rintro r w1 ⟨rfl, rfl⟩; rw [hx])
        go_ret
        exact ⟨ret_int (unhide HV).symm, unhide B3⟩
      · have HY : Hid (numsI l = numsI (l.drop (n + 1))) := by rw [Hid, unhide HX, hst, hx]; rfl
        clear hst HX HG
        go_wp2_with (go_at_call 35; refine (isWithin_any _ _ _ _).mono ?_; rintro r w1 ⟨rfl, rfl⟩; rw [hx])
        go_round
        case rel => exact ⟨n + 1, by omega, by go_num, HY⟩
        case measure => simp [intOf]; omega
    · have HV : Hid (itemC ⟨p, d, l⟩ = 0) := by rw [Hid, unhide HG, unhide HX, numsI_end (by omega), if_pos rfl]
      clear HX HG
      go_wp2_with fail
      go_ret
      exact ⟨ret_int (unhide HV).symm, unhide B3⟩
end Go.Proofs.YtcmekhpphgkglaaDoor
