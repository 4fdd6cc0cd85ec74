/-
  What spec.l5Form answers of an op of one kind.
-/
import Derived.Test.YtcmekhpphgkglaaDoorOpForm
import Derived.Test.YtcmekhpphgkglaaDoorRowMath
import Derived.Test.YtcmekhpphgkglaaDoorInWalk
namespace Go.Proofs.YtcmekhpphgkglaaDoor
open Go.RowKit
set_option linter.unusedVariables false

set_option maxRecDepth 20000 in
set_option maxHeartbeats 4000000 in
theorem l5Form_6 (p t : ByteArray) (d : Bool) (i : Int) (nl : List Int) (b : Nat) (a : Option Addr) (c : Nat) (ty : TypeId) (w : World) (hx : Box w b [.int .i64 6, .string p, .string t, .bool d, .int .i64 i, .slice a nl.length c] ty) :
    Calls Tryd.prog 63 #[.pointer (some ⟨b, 0, none⟩)] w fun e w' => e = .returned (.bool (opForm 6 p t d i nl)) ∧ w' = w := by
  have q0 := hx.cell 0
  have q1 := hx.cell 1
  have q2 := hx.cell 2
  have q3 := hx.cell 3
  have q4 := hx.cell 4
  have q5 := hx.cell 5
  simp only [List.getElem?_cons_zero, List.getElem?_cons_succ] at q0 q1 q2 q3 q4 q5
  clear hx
  have hin : inB 6 1 8 = true := by decide
  have et := noB_is t
  generalize ht : noB t = xt at *
  generalize hn : ((nl.length : Int) == 0) = xn at *
  generalize hi : (i == 0) = xi at *
  have HV0 : Hid (opForm 6 p t d i nl = (xt && xn && xi && !d)) := by
    rw [Hid, opForm, hin]
    simp [ht, hn, hi]
  clear ht
  cases xt <;> cases xn <;> cases xi <;> cases d
  all_goals
    have HV := HV0
    clear HV0
    simp only [Bool.false_eq_true, eq_self, eq_iff_iff, iff_true, iff_false] at et
    go_enter Tryd.func63, Tryd.ntmps63
    go_wp2_with (go_at_call 31; refine (l1In_any _ _ _ _).mono ?_; rintro r w1 ⟨rfl, rfl⟩; rw [hin])
    go_ret
    exact ⟨ret_bool (unhide HV).symm, rfl⟩
set_option maxRecDepth 20000 in
set_option maxHeartbeats 4000000 in
theorem l5Form_7 (p t : ByteArray) (d : Bool) (i : Int) (nl : List Int) (b : Nat) (a : Option Addr) (c : Nat) (ty : TypeId) (w : World) (hx : Box w b [.int .i64 7, .string p, .string t, .bool d, .int .i64 i, .slice a nl.length c] ty) :
    Calls Tryd.prog 63 #[.pointer (some ⟨b, 0, none⟩)] w fun e w' => e = .returned (.bool (opForm 7 p t d i nl)) ∧ w' = w := by
  have q0 := hx.cell 0
  have q1 := hx.cell 1
  have q2 := hx.cell 2
  have q3 := hx.cell 3
  have q4 := hx.cell 4
  have q5 := hx.cell 5
  simp only [List.getElem?_cons_zero, List.getElem?_cons_succ] at q0 q1 q2 q3 q4 q5
  clear hx
  have hin : inB 7 1 8 = true := by decide
  have et := noB_is t
  generalize ht : noB t = xt at *
  generalize hn : ((nl.length : Int) == 0) = xn at *
  generalize hi : (i == 0) = xi at *
  have HV0 : Hid (opForm 7 p t d i nl = (xt && xn && xi && !d)) := by
    rw [Hid, opForm, hin]
    simp [ht, hn, hi]
  clear ht
  cases xt <;> cases xn <;> cases xi <;> cases d
  all_goals
    have HV := HV0
    clear HV0
    simp only [Bool.false_eq_true, eq_self, eq_iff_iff, iff_true, iff_false] at et
    go_enter Tryd.func63, Tryd.ntmps63
    go_wp2_with (go_at_call 31; refine (l1In_any _ _ _ _).mono ?_; rintro r w1 ⟨rfl, rfl⟩; rw [hin])
    go_ret
    exact ⟨ret_bool (unhide HV).symm, rfl⟩
end Go.Proofs.YtcmekhpphgkglaaDoor
