/-
  What spec.EventFault answers.
-/
import Derived.Test.YtcccpifecojijaaDoorEvSpecA
namespace Go.Proofs.YtcccpifecojijaaDoor
open Go.RowKit
set_option linter.unusedVariables false

set_option maxRecDepth 20000 in
set_option maxHeartbeats 4000000 in
theorem l7Form_0 (k : Int) (wo at_ : Int) (fl : List Int) (ok : Int) (op ot : ByteArray) (od : Bool) (oi : Int) (on : List Int) (b : Nat) (af a1 : Option Addr) (cf c1 : Nat) (ty : TypeId) (w : World) (hx : Box w b [.int .i64 k, .int .i64 wo, .int .i64 at_, .slice af fl.length cf, .int .i64 ok, .string op, .string ot, .bool od, .int .i64 oi, .slice a1 on.length c1] ty) (hin : inB k 1 6 = false) :
    Calls Tryd.prog 46 #[.pointer (some ⟨b, 0, none⟩)] w fun r w' => r = .returned (.bool (evForm k wo at_ fl ok op ot od oi on)) ∧ w' = w := by
  have q0 := hx.cell 0
  have q1 := hx.cell 1
  have q2 := hx.cell 2
  have q3 := hx.cell 3
  have q4 := hx.cell 4
  have q5 := hx.cell 5
  have q6 := hx.cell 6
  have q7 := hx.cell 7
  have q8 := hx.cell 8
  have q9 := hx.cell 9
  simp only [List.getElem?_cons_zero, List.getElem?_cons_succ] at q0 q1 q2 q3 q4 q5 q6 q7 q8 q9
  clear hx
  have h1 : (k == 1) = false := by have : k ≠ 1 := fun e => by rw [e] at hin; exact absurd hin (by decide)
                                   simpa using this
  have HV : Hid (evForm k wo at_ fl ok op ot od oi on = false) := by rw [Hid, evForm, hin]; rfl
  generalize h2 : (k == 2) = b2 at *
  cases b2
  all_goals
    go_enter Tryd.func46, Tryd.ntmps46
    go_wp2_with (go_at_call 36; refine (l1In_any _ _ _ _).mono ?_; rintro r w1 ⟨rfl, rfl⟩; rw [hin])
    go_ret
    exact ⟨ret_bool (unhide HV).symm, rfl⟩
set_option maxRecDepth 20000 in
set_option maxHeartbeats 4000000 in
theorem l7Form_1 (wo at_ : Int) (fl : List Int) (ok : Int) (op ot : ByteArray) (od : Bool) (oi : Int) (on : List Int) (b : Nat) (af a1 : Option Addr) (cf c1 : Nat) (ty : TypeId) (w : World) (hx : Box w b [.int .i64 1, .int .i64 wo, .int .i64 at_, .slice af fl.length cf, .int .i64 ok, .string op, .string ot, .bool od, .int .i64 oi, .slice a1 on.length c1] ty) :
    Calls Tryd.prog 46 #[.pointer (some ⟨b, 0, none⟩)] w fun r w' => r = .returned (.bool (evForm 1 wo at_ fl ok op ot od oi on)) ∧ w' = w := by
  have q0 := hx.cell 0
  have q1 := hx.cell 1
  have q2 := hx.cell 2
  have q3 := hx.cell 3
  have q4 := hx.cell 4
  have q5 := hx.cell 5
  have q6 := hx.cell 6
  have q7 := hx.cell 7
  have q8 := hx.cell 8
  have q9 := hx.cell 9
  simp only [List.getElem?_cons_zero, List.getElem?_cons_succ] at q0 q1 q2 q3 q4 q5 q6 q7 q8 q9
  clear hx
  have HNO := hide (l7NoOp_any b 4 ok op ot od oi on a1 c1 w q4 q5 q6 q7 q8 q9)
  have hin : inB 1 1 6 = true := by decide
  generalize ha : (at_ == 0) = xa at *
  generalize hf : ((fl.length : Int) == 0) = xf at *
  have HV0 : Hid (evForm 1 wo at_ fl ok op ot od oi on = (xa && xf)) := by
    rw [Hid, evForm, hin]
    simp [ha, hf]
  cases xa
  · have HV := HV0
    clear HV0
    have ha2 : (at_ != 0) = true := by rw [bne, ha]; rfl
    go_enter Tryd.func46, Tryd.ntmps46
    go_wp2_with (first | (go_at_call 36; refine (l1In_any _ _ _ _).mono ?_; rintro r w1 ⟨rfl, rfl⟩; rw [hin]) | (go_at_call 59; refine (unhide HNO).mono ?_; rintro r w1 ⟨rfl, rfl⟩))
    go_ret
    exact ⟨ret_bool (by rw [unhide HV]; simp), rfl⟩
  · cases xf
    · have HV := HV0
      clear HV0
      have ha2 : (at_ != 0) = false := by rw [bne, ha]; rfl
      go_enter Tryd.func46, Tryd.ntmps46
      go_wp2_with (first | (go_at_call 36; refine (l1In_any _ _ _ _).mono ?_; rintro r w1 ⟨rfl, rfl⟩; rw [hin]) | (go_at_call 59; refine (unhide HNO).mono ?_; rintro r w1 ⟨rfl, rfl⟩))
      go_ret
      exact ⟨ret_bool (by rw [unhide HV]; simp), rfl⟩
    · have HV := HV0
      clear HV0
      have ha2 : (at_ != 0) = false := by rw [bne, ha]; rfl
      go_enter Tryd.func46, Tryd.ntmps46
      go_wp2_with (first | (go_at_call 36; refine (l1In_any _ _ _ _).mono ?_; rintro r w1 ⟨rfl, rfl⟩; rw [hin]) | (go_at_call 59; refine (unhide HNO).mono ?_; rintro r w1 ⟨rfl, rfl⟩))
      go_ret
      exact ⟨ret_bool (by rw [unhide HV]; simp), rfl⟩
set_option maxRecDepth 20000 in
set_option maxHeartbeats 4000000 in
theorem l7Form_2 (wo at_ : Int) (fl : List Int) (ok : Int) (op ot : ByteArray) (od : Bool) (oi : Int) (on : List Int) (b : Nat) (af a1 : Option Addr) (cf c1 : Nat) (ty : TypeId) (w : World) (hx : Box w b [.int .i64 2, .int .i64 wo, .int .i64 at_, .slice af fl.length cf, .int .i64 ok, .string op, .string ot, .bool od, .int .i64 oi, .slice a1 on.length c1] ty) :
    Calls Tryd.prog 46 #[.pointer (some ⟨b, 0, none⟩)] w fun r w' => r = .returned (.bool (evForm 2 wo at_ fl ok op ot od oi on)) ∧ w' = w := by
  have q0 := hx.cell 0
  have q1 := hx.cell 1
  have q2 := hx.cell 2
  have q3 := hx.cell 3
  have q4 := hx.cell 4
  have q5 := hx.cell 5
  have q6 := hx.cell 6
  have q7 := hx.cell 7
  have q8 := hx.cell 8
  have q9 := hx.cell 9
  simp only [List.getElem?_cons_zero, List.getElem?_cons_succ] at q0 q1 q2 q3 q4 q5 q6 q7 q8 q9
  clear hx
  have HNO := hide (l7NoOp_any b 4 ok op ot od oi on a1 c1 w q4 q5 q6 q7 q8 q9)
  have hin : inB 2 1 6 = true := by decide
  generalize ha : (at_ == 0) = xa at *
  generalize hf : ((fl.length : Int) == 0) = xf at *
  generalize hz : noOp ok op ot od oi on = xz at *
  have HV0 : Hid (evForm 2 wo at_ fl ok op ot od oi on = (xa && xf && xz)) := by
    rw [Hid, evForm, hin]
    simp [ha, hf, hz]
  clear hz
  cases xa
  · have HV := HV0
    clear HV0
    have ha2 : (at_ != 0) = true := by rw [bne, ha]; rfl
    go_enter Tryd.func46, Tryd.ntmps46
    go_wp2_with (first | (go_at_call 36; refine (l1In_any _ _ _ _).mono ?_; rintro r w1 ⟨rfl, rfl⟩; rw [hin]) | (go_at_call 59; refine (unhide HNO).mono ?_; rintro r w1 ⟨rfl, rfl⟩))
    go_ret
    exact ⟨ret_bool (by rw [unhide HV]; simp), rfl⟩
  · cases xf
    · have HV := HV0
      clear HV0
      have ha2 : (at_ != 0) = false := by rw [bne, ha]; rfl
      go_enter Tryd.func46, Tryd.ntmps46
      go_wp2_with (first | (go_at_call 36; refine (l1In_any _ _ _ _).mono ?_; rintro r w1 ⟨rfl, rfl⟩; rw [hin]) | (go_at_call 59; refine (unhide HNO).mono ?_; rintro r w1 ⟨rfl, rfl⟩))
      go_ret
      exact ⟨ret_bool (by rw [unhide HV]; simp), rfl⟩
    · cases xz
      · have HV := HV0
        clear HV0
        have ha2 : (at_ != 0) = false := by rw [bne, ha]; rfl
        go_enter Tryd.func46, Tryd.ntmps46
        go_wp2_with (first | (go_at_call 36; refine (l1In_any _ _ _ _).mono ?_; rintro r w1 ⟨rfl, rfl⟩; rw [hin]) | (go_at_call 59; refine (unhide HNO).mono ?_; rintro r w1 ⟨rfl, rfl⟩))
        go_ret
        exact ⟨ret_bool (by rw [unhide HV]; simp), rfl⟩
      · have HV := HV0
        clear HV0
        have ha2 : (at_ != 0) = false := by rw [bne, ha]; rfl
        go_enter Tryd.func46, Tryd.ntmps46
        go_wp2_with (first | (go_at_call 36; refine (l1In_any _ _ _ _).mono ?_; rintro r w1 ⟨rfl, rfl⟩; rw [hin]) | (go_at_call 59; refine (unhide HNO).mono ?_; rintro r w1 ⟨rfl, rfl⟩))
        go_ret
        exact ⟨ret_bool (by rw [unhide HV]; simp), rfl⟩
set_option maxRecDepth 20000 in
set_option maxHeartbeats 4000000 in
theorem l7Form_3 (wo at_ : Int) (fl : List Int) (ok : Int) (op ot : ByteArray) (od : Bool) (oi : Int) (on : List Int) (b : Nat) (af a1 : Option Addr) (cf c1 : Nat) (ty : TypeId) (w : World) (hx : Box w b [.int .i64 3, .int .i64 wo, .int .i64 at_, .slice af fl.length cf, .int .i64 ok, .string op, .string ot, .bool od, .int .i64 oi, .slice a1 on.length c1] ty) :
    Calls Tryd.prog 46 #[.pointer (some ⟨b, 0, none⟩)] w fun r w' => r = .returned (.bool (evForm 3 wo at_ fl ok op ot od oi on)) ∧ w' = w := by
  have q0 := hx.cell 0
  have q1 := hx.cell 1
  have q2 := hx.cell 2
  have q3 := hx.cell 3
  have q4 := hx.cell 4
  have q5 := hx.cell 5
  have q6 := hx.cell 6
  have q7 := hx.cell 7
  have q8 := hx.cell 8
  have q9 := hx.cell 9
  simp only [List.getElem?_cons_zero, List.getElem?_cons_succ] at q0 q1 q2 q3 q4 q5 q6 q7 q8 q9
  clear hx
  have HNO := hide (l7NoOp_any b 4 ok op ot od oi on a1 c1 w q4 q5 q6 q7 q8 q9)
  have hin : inB 3 1 6 = true := by decide
  generalize hw : (wo == 0) = xw at *
  generalize ha : (at_ == 0) = xa at *
  generalize hf : ((fl.length : Int) == 0) = xf at *
  generalize hz : noOp ok op ot od oi on = xz at *
  have HV0 : Hid (evForm 3 wo at_ fl ok op ot od oi on = (xw && xa && xf && xz)) := by
    rw [Hid, evForm, hin]
    simp [hw, ha, hf, hz]
  clear hz
  cases xw
  · have HV := HV0
    clear HV0
    have hw2 : (wo != 0) = true := by rw [bne, hw]; rfl
    go_enter Tryd.func46, Tryd.ntmps46
    go_wp2_with (first | (go_at_call 36; refine (l1In_any _ _ _ _).mono ?_; rintro r w1 ⟨rfl, rfl⟩; rw [hin]) | (go_at_call 59; refine (unhide HNO).mono ?_; rintro r w1 ⟨rfl, rfl⟩))
    go_ret
    exact ⟨ret_bool (by rw [unhide HV]; simp), rfl⟩
  · cases xa
    · have HV := HV0
      clear HV0
      have hw2 : (wo != 0) = false := by rw [bne, hw]; rfl
      have ha2 : (at_ != 0) = true := by rw [bne, ha]; rfl
      go_enter Tryd.func46, Tryd.ntmps46
      go_wp2_with (first | (go_at_call 36; refine (l1In_any _ _ _ _).mono ?_; rintro r w1 ⟨rfl, rfl⟩; rw [hin]) | (go_at_call 59; refine (unhide HNO).mono ?_; rintro r w1 ⟨rfl, rfl⟩))
      go_ret
      exact ⟨ret_bool (by rw [unhide HV]; simp), rfl⟩
    · cases xf
      · have HV := HV0
        clear HV0
        have hw2 : (wo != 0) = false := by rw [bne, hw]; rfl
        have ha2 : (at_ != 0) = false := by rw [bne, ha]; rfl
        go_enter Tryd.func46, Tryd.ntmps46
        go_wp2_with (first | (go_at_call 36; refine (l1In_any _ _ _ _).mono ?_; rintro r w1 ⟨rfl, rfl⟩; rw [hin]) | (go_at_call 59; refine (unhide HNO).mono ?_; rintro r w1 ⟨rfl, rfl⟩))
        go_ret
        exact ⟨ret_bool (by rw [unhide HV]; simp), rfl⟩
      · cases xz
        · have HV := HV0
          clear HV0
          have hw2 : (wo != 0) = false := by rw [bne, hw]; rfl
          have ha2 : (at_ != 0) = false := by rw [bne, ha]; rfl
          go_enter Tryd.func46, Tryd.ntmps46
          go_wp2_with (first | (go_at_call 36; refine (l1In_any _ _ _ _).mono ?_; rintro r w1 ⟨rfl, rfl⟩; rw [hin]) | (go_at_call 59; refine (unhide HNO).mono ?_; rintro r w1 ⟨rfl, rfl⟩))
          go_ret
          exact ⟨ret_bool (by rw [unhide HV]; simp), rfl⟩
        · have HV := HV0
          clear HV0
          have hw2 : (wo != 0) = false := by rw [bne, hw]; rfl
          have ha2 : (at_ != 0) = false := by rw [bne, ha]; rfl
          go_enter Tryd.func46, Tryd.ntmps46
          go_wp2_with (first | (go_at_call 36; refine (l1In_any _ _ _ _).mono ?_; rintro r w1 ⟨rfl, rfl⟩; rw [hin]) | (go_at_call 59; refine (unhide HNO).mono ?_; rintro r w1 ⟨rfl, rfl⟩))
          go_ret
          exact ⟨ret_bool (by rw [unhide HV]; simp), rfl⟩
set_option maxRecDepth 20000 in
set_option maxHeartbeats 4000000 in
theorem l7Form_4 (wo at_ : Int) (fl : List Int) (ok : Int) (op ot : ByteArray) (od : Bool) (oi : Int) (on : List Int) (b : Nat) (af a1 : Option Addr) (cf c1 : Nat) (ty : TypeId) (w : World) (hx : Box w b [.int .i64 4, .int .i64 wo, .int .i64 at_, .slice af fl.length cf, .int .i64 ok, .string op, .string ot, .bool od, .int .i64 oi, .slice a1 on.length c1] ty) :
    Calls Tryd.prog 46 #[.pointer (some ⟨b, 0, none⟩)] w fun r w' => r = .returned (.bool (evForm 4 wo at_ fl ok op ot od oi on)) ∧ w' = w := by
  have q0 := hx.cell 0
  have q1 := hx.cell 1
  have q2 := hx.cell 2
  have q3 := hx.cell 3
  have q4 := hx.cell 4
  have q5 := hx.cell 5
  have q6 := hx.cell 6
  have q7 := hx.cell 7
  have q8 := hx.cell 8
  have q9 := hx.cell 9
  simp only [List.getElem?_cons_zero, List.getElem?_cons_succ] at q0 q1 q2 q3 q4 q5 q6 q7 q8 q9
  clear hx
  have HNO := hide (l7NoOp_any b 4 ok op ot od oi on a1 c1 w q4 q5 q6 q7 q8 q9)
  have hin : inB 4 1 6 = true := by decide
  generalize hw : (wo == 0) = xw at *
  generalize hf : ((fl.length : Int) == 0) = xf at *
  generalize hz : noOp ok op ot od oi on = xz at *
  have HV0 : Hid (evForm 4 wo at_ fl ok op ot od oi on = (xw && xf && xz)) := by
    rw [Hid, evForm, hin]
    simp [hw, hf, hz]
  clear hz
  cases xw
  · have HV := HV0
    clear HV0
    have hw2 : (wo != 0) = true := by rw [bne, hw]; rfl
    go_enter Tryd.func46, Tryd.ntmps46
    go_wp2_with (first | (go_at_call 36; refine (l1In_any _ _ _ _).mono ?_; rintro r w1 ⟨rfl, rfl⟩; rw [hin]) | (go_at_call 59; refine (unhide HNO).mono ?_; rintro r w1 ⟨rfl, rfl⟩))
    go_ret
    exact ⟨ret_bool (by rw [unhide HV]; simp), rfl⟩
  · cases xf
    · have HV := HV0
      clear HV0
      have hw2 : (wo != 0) = false := by rw [bne, hw]; rfl
      go_enter Tryd.func46, Tryd.ntmps46
      go_wp2_with (first | (go_at_call 36; refine (l1In_any _ _ _ _).mono ?_; rintro r w1 ⟨rfl, rfl⟩; rw [hin]) | (go_at_call 59; refine (unhide HNO).mono ?_; rintro r w1 ⟨rfl, rfl⟩))
      go_ret
      exact ⟨ret_bool (by rw [unhide HV]; simp), rfl⟩
    · cases xz
      · have HV := HV0
        clear HV0
        have hw2 : (wo != 0) = false := by rw [bne, hw]; rfl
        go_enter Tryd.func46, Tryd.ntmps46
        go_wp2_with (first | (go_at_call 36; refine (l1In_any _ _ _ _).mono ?_; rintro r w1 ⟨rfl, rfl⟩; rw [hin]) | (go_at_call 59; refine (unhide HNO).mono ?_; rintro r w1 ⟨rfl, rfl⟩))
        go_ret
        exact ⟨ret_bool (by rw [unhide HV]; simp), rfl⟩
      · have HV := HV0
        clear HV0
        have hw2 : (wo != 0) = false := by rw [bne, hw]; rfl
        go_enter Tryd.func46, Tryd.ntmps46
        go_wp2_with (first | (go_at_call 36; refine (l1In_any _ _ _ _).mono ?_; rintro r w1 ⟨rfl, rfl⟩; rw [hin]) | (go_at_call 59; refine (unhide HNO).mono ?_; rintro r w1 ⟨rfl, rfl⟩))
        go_ret
        exact ⟨ret_bool (by rw [unhide HV]; simp), rfl⟩
set_option maxRecDepth 20000 in
set_option maxHeartbeats 4000000 in
theorem l7Form_5 (wo at_ : Int) (fl : List Int) (ok : Int) (op ot : ByteArray) (od : Bool) (oi : Int) (on : List Int) (b : Nat) (af a1 : Option Addr) (cf c1 : Nat) (ty : TypeId) (w : World) (hx : Box w b [.int .i64 5, .int .i64 wo, .int .i64 at_, .slice af fl.length cf, .int .i64 ok, .string op, .string ot, .bool od, .int .i64 oi, .slice a1 on.length c1] ty) :
    Calls Tryd.prog 46 #[.pointer (some ⟨b, 0, none⟩)] w fun r w' => r = .returned (.bool (evForm 5 wo at_ fl ok op ot od oi on)) ∧ w' = w := by
  have q0 := hx.cell 0
  have q1 := hx.cell 1
  have q2 := hx.cell 2
  have q3 := hx.cell 3
  have q4 := hx.cell 4
  have q5 := hx.cell 5
  have q6 := hx.cell 6
  have q7 := hx.cell 7
  have q8 := hx.cell 8
  have q9 := hx.cell 9
  simp only [List.getElem?_cons_zero, List.getElem?_cons_succ] at q0 q1 q2 q3 q4 q5 q6 q7 q8 q9
  clear hx
  have HNO := hide (l7NoOp_any b 4 ok op ot od oi on a1 c1 w q4 q5 q6 q7 q8 q9)
  have hin : inB 5 1 6 = true := by decide
  generalize hw : (wo == 0) = xw at *
  generalize ha : (at_ == 0) = xa at *
  generalize hz : noOp ok op ot od oi on = xz at *
  have HV0 : Hid (evForm 5 wo at_ fl ok op ot od oi on = (xw && xa && xz)) := by
    rw [Hid, evForm, hin]
    simp [hw, ha, hz]
  clear hz
  cases xw
  · have HV := HV0
    clear HV0
    have hw2 : (wo != 0) = true := by rw [bne, hw]; rfl
    go_enter Tryd.func46, Tryd.ntmps46
    go_wp2_with (first | (go_at_call 36; refine (l1In_any _ _ _ _).mono ?_; rintro r w1 ⟨rfl, rfl⟩; rw [hin]) | (go_at_call 59; refine (unhide HNO).mono ?_; rintro r w1 ⟨rfl, rfl⟩))
    go_ret
    exact ⟨ret_bool (by rw [unhide HV]; simp), rfl⟩
  · cases xa
    · have HV := HV0
      clear HV0
      have hw2 : (wo != 0) = false := by rw [bne, hw]; rfl
      have ha2 : (at_ != 0) = true := by rw [bne, ha]; rfl
      go_enter Tryd.func46, Tryd.ntmps46
      go_wp2_with (first | (go_at_call 36; refine (l1In_any _ _ _ _).mono ?_; rintro r w1 ⟨rfl, rfl⟩; rw [hin]) | (go_at_call 59; refine (unhide HNO).mono ?_; rintro r w1 ⟨rfl, rfl⟩))
      go_ret
      exact ⟨ret_bool (by rw [unhide HV]; simp), rfl⟩
    · cases xz
      · have HV := HV0
        clear HV0
        have hw2 : (wo != 0) = false := by rw [bne, hw]; rfl
        have ha2 : (at_ != 0) = false := by rw [bne, ha]; rfl
        go_enter Tryd.func46, Tryd.ntmps46
        go_wp2_with (first | (go_at_call 36; refine (l1In_any _ _ _ _).mono ?_; rintro r w1 ⟨rfl, rfl⟩; rw [hin]) | (go_at_call 59; refine (unhide HNO).mono ?_; rintro r w1 ⟨rfl, rfl⟩))
        go_ret
        exact ⟨ret_bool (by rw [unhide HV]; simp), rfl⟩
      · have HV := HV0
        clear HV0
        have hw2 : (wo != 0) = false := by rw [bne, hw]; rfl
        have ha2 : (at_ != 0) = false := by rw [bne, ha]; rfl
        go_enter Tryd.func46, Tryd.ntmps46
        go_wp2_with (first | (go_at_call 36; refine (l1In_any _ _ _ _).mono ?_; rintro r w1 ⟨rfl, rfl⟩; rw [hin]) | (go_at_call 59; refine (unhide HNO).mono ?_; rintro r w1 ⟨rfl, rfl⟩))
        go_ret
        exact ⟨ret_bool (by rw [unhide HV]; simp), rfl⟩
set_option maxRecDepth 20000 in
set_option maxHeartbeats 4000000 in
theorem l7Form_6 (wo at_ : Int) (fl : List Int) (ok : Int) (op ot : ByteArray) (od : Bool) (oi : Int) (on : List Int) (b : Nat) (af a1 : Option Addr) (cf c1 : Nat) (ty : TypeId) (w : World) (hx : Box w b [.int .i64 6, .int .i64 wo, .int .i64 at_, .slice af fl.length cf, .int .i64 ok, .string op, .string ot, .bool od, .int .i64 oi, .slice a1 on.length c1] ty) :
    Calls Tryd.prog 46 #[.pointer (some ⟨b, 0, none⟩)] w fun r w' => r = .returned (.bool (evForm 6 wo at_ fl ok op ot od oi on)) ∧ w' = w := by
  have q0 := hx.cell 0
  have q1 := hx.cell 1
  have q2 := hx.cell 2
  have q3 := hx.cell 3
  have q4 := hx.cell 4
  have q5 := hx.cell 5
  have q6 := hx.cell 6
  have q7 := hx.cell 7
  have q8 := hx.cell 8
  have q9 := hx.cell 9
  simp only [List.getElem?_cons_zero, List.getElem?_cons_succ] at q0 q1 q2 q3 q4 q5 q6 q7 q8 q9
  clear hx
  have HNO := hide (l7NoOp_any b 4 ok op ot od oi on a1 c1 w q4 q5 q6 q7 q8 q9)
  have hin : inB 6 1 6 = true := by decide
  generalize hw : (wo == 0) = xw at *
  generalize ha : (at_ == 0) = xa at *
  generalize hf : ((fl.length : Int) == 0) = xf at *
  generalize hz : noOp ok op ot od oi on = xz at *
  have HV0 : Hid (evForm 6 wo at_ fl ok op ot od oi on = (xw && xa && xf && xz)) := by
    rw [Hid, evForm, hin]
    simp [hw, ha, hf, hz]
  clear hz
  cases xw
  · have HV := HV0
    clear HV0
    have hw2 : (wo != 0) = true := by rw [bne, hw]; rfl
    go_enter Tryd.func46, Tryd.ntmps46
    go_wp2_with (first | (go_at_call 36; refine (l1In_any _ _ _ _).mono ?_; rintro r w1 ⟨rfl, rfl⟩; rw [hin]) | (go_at_call 59; refine (unhide HNO).mono ?_; rintro r w1 ⟨rfl, rfl⟩))
    go_ret
    exact ⟨ret_bool (by rw [unhide HV]; simp), rfl⟩
  · cases xa
    · have HV := HV0
      clear HV0
      have hw2 : (wo != 0) = false := by rw [bne, hw]; rfl
      have ha2 : (at_ != 0) = true := by rw [bne, ha]; rfl
      go_enter Tryd.func46, Tryd.ntmps46
      go_wp2_with (first | (go_at_call 36; refine (l1In_any _ _ _ _).mono ?_; rintro r w1 ⟨rfl, rfl⟩; rw [hin]) | (go_at_call 59; refine (unhide HNO).mono ?_; rintro r w1 ⟨rfl, rfl⟩))
      go_ret
      exact ⟨ret_bool (by rw [unhide HV]; simp), rfl⟩
    · cases xf
      · have HV := HV0
        clear HV0
        have hw2 : (wo != 0) = false := by rw [bne, hw]; rfl
        have ha2 : (at_ != 0) = false := by rw [bne, ha]; rfl
        go_enter Tryd.func46, Tryd.ntmps46
        go_wp2_with (first | (go_at_call 36; refine (l1In_any _ _ _ _).mono ?_; rintro r w1 ⟨rfl, rfl⟩; rw [hin]) | (go_at_call 59; refine (unhide HNO).mono ?_; rintro r w1 ⟨rfl, rfl⟩))
        go_ret
        exact ⟨ret_bool (by rw [unhide HV]; simp), rfl⟩
      · cases xz
        · have HV := HV0
          clear HV0
          have hw2 : (wo != 0) = false := by rw [bne, hw]; rfl
          have ha2 : (at_ != 0) = false := by rw [bne, ha]; rfl
          go_enter Tryd.func46, Tryd.ntmps46
          go_wp2_with (first | (go_at_call 36; refine (l1In_any _ _ _ _).mono ?_; rintro r w1 ⟨rfl, rfl⟩; rw [hin]) | (go_at_call 59; refine (unhide HNO).mono ?_; rintro r w1 ⟨rfl, rfl⟩))
          go_ret
          exact ⟨ret_bool (by rw [unhide HV]; simp), rfl⟩
        · have HV := HV0
          clear HV0
          have hw2 : (wo != 0) = false := by rw [bne, hw]; rfl
          have ha2 : (at_ != 0) = false := by rw [bne, ha]; rfl
          go_enter Tryd.func46, Tryd.ntmps46
          go_wp2_with (first | (go_at_call 36; refine (l1In_any _ _ _ _).mono ?_; rintro r w1 ⟨rfl, rfl⟩; rw [hin]) | (go_at_call 59; refine (unhide HNO).mono ?_; rintro r w1 ⟨rfl, rfl⟩))
          go_ret
          exact ⟨ret_bool (by rw [unhide HV]; simp), rfl⟩
theorem l7Form_any (k wo at_ : Int) (fl : List Int) (ok : Int) (op ot : ByteArray) (od : Bool) (oi : Int) (on : List Int) (b : Nat) (af a1 : Option Addr) (cf c1 : Nat) (ty : TypeId) (w : World) (hx : Box w b [.int .i64 k, .int .i64 wo, .int .i64 at_, .slice af fl.length cf, .int .i64 ok, .string op, .string ot, .bool od, .int .i64 oi, .slice a1 on.length c1] ty) :
    Calls Tryd.prog 46 #[.pointer (some ⟨b, 0, none⟩)] w fun r w' => r = .returned (.bool (evForm k wo at_ fl ok op ot od oi on)) ∧ w' = w := by
  cases hin : inB k 1 6
  · exact l7Form_0 k wo at_ fl ok op ot od oi on b af a1 cf c1 ty w hx hin
  rcases evKinds hin with rfl | rfl | rfl | rfl | rfl | rfl
  · exact l7Form_1 wo at_ fl ok op ot od oi on b af a1 cf c1 ty w hx
  · exact l7Form_2 wo at_ fl ok op ot od oi on b af a1 cf c1 ty w hx
  · exact l7Form_3 wo at_ fl ok op ot od oi on b af a1 cf c1 ty w hx
  · exact l7Form_4 wo at_ fl ok op ot od oi on b af a1 cf c1 ty w hx
  · exact l7Form_5 wo at_ fl ok op ot od oi on b af a1 cf c1 ty w hx
  · exact l7Form_6 wo at_ fl ok op ot od oi on b af a1 cf c1 ty w hx
set_option maxRecDepth 20000 in
set_option maxHeartbeats 4000000 in
theorem specEventFault_any (k wo at_ : Int) (fl : List Int) (ok : Int) (op ot : ByteArray) (od : Bool) (oi : Int) (on : List Int) (af a1 : Option Addr) (cf c1 : Nat) (w : World) (hf : IntsAt w af fl) (h : IntsAt w a1 on) (hn : on.length ≤ 1048576) (hp : op.size ≤ 1048576) (ht : ot.size ≤ 1048576) (hl : fl.length ≤ 1048576) :
    Calls Tryd.prog 20 #[.agg #[.int .i64 k, .int .i64 wo, .int .i64 at_, .slice af fl.length cf, .int .i64 ok, .string op, .string ot, .bool od, .int .i64 oi, .slice a1 on.length c1]] w fun r w' => r = .returned (.int .i64 (evCode k wo at_ fl ok op ot od oi on)) ∧ Below w.heap.size w w' := by
  obtain ⟨W, hW, hWz, HB0, HX0⟩ := boxes1 w [.int .i64 k, .int .i64 wo, .int .i64 at_, .slice af fl.length cf, .int .i64 ok, .string op, .string ot, .bool od, .int .i64 oi, .slice a1 on.length c1] 44
  have H := hide (h.below (unhide HB0))
  have HF := hide (hf.below (unhide HB0))
  have HFO := hide (l7Form_any k wo at_ fl ok op ot od oi on _ af a1 cf c1 _ _ (unhide HX0))
  clear h hf
  have q0 := (unhide HX0).cell 0
  have q1 := (unhide HX0).cell 1
  have q2 := (unhide HX0).cell 2
  have q3 := (unhide HX0).cell 3
  have q4 := (unhide HX0).cell 4
  have q5 := (unhide HX0).cell 5
  have q6 := (unhide HX0).cell 6
  have q7 := (unhide HX0).cell 7
  have q8 := (unhide HX0).cell 8
  have q9 := (unhide HX0).cell 9
  simp only [List.getElem?_cons_zero, List.getElem?_cons_succ] at q0 q1 q2 q3 q4 q5 q6 q7 q8 q9
  go_enter Tryd.func20, Tryd.ntmps20
  go_wp2_with fail
  rw [← hW]
  clear hW HX0
  refine (unhide HFO).mono ?_
  rintro r w1 ⟨rfl, rfl⟩
  clear HFO
  cases hform : evForm k wo at_ fl ok op ot od oi on
  · have HV : Hid (evCode k wo at_ fl ok op ot od oi on = 1) := by rw [Hid, evCode, hform]; rfl
    go_wp2_with fail
    go_ret
    exact ⟨ret_int (unhide HV).symm, unhide HB0⟩
  have HC : Hid (evCode k wo at_ fl ok op ot od oi on = (if inB wo 0 3 = true then (if inB at_ 0 327 = true then (if (40 : Int) < fl.length then 2 else if fatesB fl = true then (if k = 1 then opCode ok op ot od oi on else 0) else 3) else 3) else 3)) := by rw [Hid, evCode, if_pos hform]
  clear hform
  cases hwo : inB wo 0 3
  · have HV : Hid (evCode k wo at_ fl ok op ot od oi on = 3) := by rw [Hid, unhide HC, hwo]; rfl
    clear HC
    go_wp2_with (go_at_call 36; refine (l1In_any _ _ _ _).mono ?_; rintro r w1 ⟨rfl, rfl⟩; rw [hwo])
    go_ret
    exact ⟨ret_int (unhide HV).symm, unhide HB0⟩
  cases hat : inB at_ 0 327
  · have HV : Hid (evCode k wo at_ fl ok op ot od oi on = 3) := by rw [Hid, unhide HC, hwo, hat]; rfl
    clear HC
    go_wp2_with (go_at_call 36; refine (l1In_any _ _ _ _).mono ?_; rintro r w1 ⟨rfl, rfl⟩; first | rw [hwo] | rw [hat])
    go_ret
    exact ⟨ret_int (unhide HV).symm, unhide HB0⟩
  by_cases hlen : (40 : Int) < fl.length
  · have HV : Hid (evCode k wo at_ fl ok op ot od oi on = 2) := by rw [Hid, unhide HC, hwo, hat, if_pos rfl, if_pos rfl, if_pos hlen]
    clear HC
    go_wp2_with (go_at_call 36; refine (l1In_any _ _ _ _).mono ?_; rintro r w1 ⟨rfl, rfl⟩; first | rw [hwo] | rw [hat])
    go_ret
    exact ⟨ret_int (unhide HV).symm, unhide HB0⟩
  have HD : Hid (evCode k wo at_ fl ok op ot od oi on = if fatesB fl = true then (if k = 1 then opCode ok op ot od oi on else 0) else 3) := by rw [Hid, unhide HC, hwo, hat, if_pos rfl, if_pos rfl, if_neg hlen]
  clear HC
  go_wp2_with (go_at_call 36; refine (l1In_any _ _ _ _).mono ?_; rintro r w1 ⟨rfl, rfl⟩; first | rw [hwo] | rw [hat])
  clear hwo hat
  go_loop [3] (fun i => ∃ n : Nat, n ≤ fl.length ∧ i = .int .i64 n ∧ Hid (fatesB fl = fatesB (fl.drop n))) (fun i => fl.length - (intOf i).toNat)
  case atStart => exact ⟨0, Nat.zero_le _, rfl, rfl⟩
  case round =>
    obtain ⟨n, hn2, rfl, HX⟩ := hrel
    by_cases hlt : n < fl.length
    · obtain ⟨b1, o1, rfl, hb1, hc1⟩ := (unhide HF).at hlt
      have hc := hc1 n hlt
      have hst := fatesB_drop hlt
      clear hc1
      generalize fl[n] = x at *
      cases hx : inB x 0 1
      · have HV : Hid (evCode k wo at_ fl ok op ot od oi on = 3) := by rw [Hid, unhide HD, unhide HX, hst, hx]; rfl
        clear hst HX HD
        go_wp2_with (go_at_call 36; refine (l1In_any _ _ _ _).mono ?_; rintro r w1 ⟨rfl, rfl⟩; rw [hx])
        go_ret
        exact ⟨ret_int (unhide HV).symm, unhide HB0⟩
      · have HY : Hid (fatesB fl = fatesB (fl.drop (n + 1))) := by rw [Hid, unhide HX, hst, hx]; rfl
        clear hst HX HD
        go_wp2_with (go_at_call 36; refine (l1In_any _ _ _ _).mono ?_; rintro r w1 ⟨rfl, rfl⟩; rw [hx])
        go_round
        case rel => exact ⟨n + 1, by omega, by go_num, HY⟩
        case measure => simp [intOf]; omega
    · have HY : Hid (evCode k wo at_ fl ok op ot od oi on = if k = 1 then opCode ok op ot od oi on else 0) := by rw [Hid, unhide HD, unhide HX, fatesB_end (by omega), if_pos rfl]
      clear HX HD HF
      by_cases hk : k = 1
      · have HV : Hid (evCode k wo at_ fl ok op ot od oi on = opCode ok op ot od oi on) := by rw [Hid, unhide HY, if_pos hk]
        have hkb : (k == 1) = true := by simpa using hk
        clear HY hk
        go_wp2_with fail
        refine (specOpFault_any ok op ot od oi on a1 c1 _ (unhide H) hn hp ht).mono ?_
        rintro r w4 ⟨rfl, hb4⟩
        have B4 := hide (below_step (unhide HB0) hb4 (by omega))
        clear hb4 HB0 H q0 q1 q2 q3 q4 q5 q6 q7 q8 q9
        go_wp2_with fail
        go_ret
        exact ⟨ret_int (unhide HV).symm, unhide B4⟩
      · have HV : Hid (evCode k wo at_ fl ok op ot od oi on = 0) := by rw [Hid, unhide HY, if_neg hk]
        have hkb : (k == 1) = false := by simpa using hk
        clear HY hk
        go_wp2_with fail
        go_ret
        exact ⟨ret_int (unhide HV).symm, unhide HB0⟩
end Go.Proofs.YtcccpifecojijaaDoor
