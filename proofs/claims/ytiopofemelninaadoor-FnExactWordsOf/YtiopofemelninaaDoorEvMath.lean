/-
  What an event's form and an event's code are.
-/
import Derived.Test.YtiopofemelninaaDoorOpForm
import Derived.Test.YtiopofemelninaaDoorNoteMath
namespace Go.Proofs.YtiopofemelninaaDoor
open Go.RowKit
set_option linter.unusedVariables false

def noOp (ok : Int) (op ot : ByteArray) (od : Bool) (oi : Int) (on : List Int) : Bool := (ok == 0) && noB op && noB ot && !od && (oi == 0) && ((on.length : Int) == 0)
def evForm (k wo at_ : Int) (fl : List Int) (ok : Int) (op ot : ByteArray) (od : Bool) (oi : Int) (on : List Int) : Bool := inB k 1 6 && ((k == 1) || (k == 2) || (wo == 0)) && ((k == 4) || (at_ == 0)) && ((k == 5) || ((fl.length : Int) == 0)) && ((k == 1) || noOp ok op ot od oi on)
def fatesB (fl : List Int) : Bool := fl.all fun v => inB v 0 1
def evCode (k wo at_ : Int) (fl : List Int) (ok : Int) (op ot : ByteArray) (od : Bool) (oi : Int) (on : List Int) : Int := if evForm k wo at_ fl ok op ot od oi on = true then (if inB wo 0 3 = true then (if inB at_ 0 327 = true then (if (40 : Int) < fl.length then 2 else if fatesB fl = true then (if k = 1 then opCode ok op ot od oi on else 0) else 3) else 3) else 3) else 1
theorem evKinds {k : Int} (h : inB k 1 6 = true) : k = 1 ∨ k = 2 ∨ k = 3 ∨ k = 4 ∨ k = 5 ∨ k = 6 := by
  have := inB_true.1 h
  omega
theorem fatesB_drop {fl : List Int} {k : Nat} (h : k < fl.length) : fatesB (fl.drop k) = (inB fl[k] 0 1 && fatesB (fl.drop (k + 1))) := by
  rw [fatesB, List.drop_eq_getElem_cons h, List.all_cons]
  rfl
theorem fatesB_end {fl : List Int} {k : Nat} (h : fl.length ≤ k) : fatesB (fl.drop k) = true := by
  rw [fatesB, List.drop_of_length_le h]
  rfl
end Go.Proofs.YtiopofemelninaaDoor
