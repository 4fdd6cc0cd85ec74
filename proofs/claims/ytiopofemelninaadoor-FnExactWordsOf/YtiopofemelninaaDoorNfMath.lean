/-
  What a note's form and a note's code are.
-/
import Derived.Test.YtiopofemelninaaDoorEvMath
import Derived.Test.YtiopofemelninaaDoorPathOfWalk
import Derived.Test.YtiopofemelninaaDoorNoteSzF
namespace Go.Proofs.YtiopofemelninaaDoor
open Go.RowKit
set_option linter.unusedVariables false

def noRep (rc : Int) (rn : List Int) (rs : List ByteArray) : Bool := (rc == 0) && ((rn.length : Int) == 0) && ((rs.length : Int) == 0)
def ntForm (k wo : Int) (ok : Int) (op ot : ByteArray) (od : Bool) (oi : Int) (on : List Int) (rc : Int) (rn : List Int) (rs : List ByteArray) : Bool := inB k 1 4 && ((k == 1) || (k == 2) || ((wo == 0) && noOp ok op ot od oi on)) && ((k == 2) || noRep rc rn rs)
def numsB (l : List Int) : Bool := l.all fun v => inB v 0 9999
def repCode (rc : Int) (rn : List Int) (rs : List ByteArray) : Int := if inB rc 0 9 = true then (if (16 : Int) < rn.length then 2 else if (60 : Int) < rs.length then 2 else if numsB rn = true then (if allNames rs = true then 0 else 5) else 3) else 3
def opPart (k : Int) (ok : Int) (op ot : ByteArray) (od : Bool) (oi : Int) (on : List Int) : Int := if k = 1 then opCode ok op ot od oi on else if k = 2 then opCode ok op ot od oi on else 0
def ntCode (k wo e : Int) (ok : Int) (op ot : ByteArray) (od : Bool) (oi : Int) (on : List Int) (rc : Int) (rn : List Int) (rs : List ByteArray) : Int := if ntForm k wo ok op ot od oi on rc rn rs = true then (if inB wo 0 3 = true then (if inB e 0 9999 = true then or0 (opPart k ok op ot od oi on) (repCode rc rn rs) else 3) else 3) else 1
def Nte.code (x : Nte) : Int := ntCode x.k x.wo x.e x.ok x.op x.ot x.od x.oi x.on x.rc x.rn x.rs
def ntsCode : List Nte → Int
  | [] => 0
  | x :: l => or0 x.code (ntsCode l)
def notesCode (l : List Nte) : Int := if (600 : Int) < l.length then 2 else ntsCode l
def codesOf (l : List NteA) : Int := ntsCode (l.map NteA.b)
theorem codesOf_drop {l : List NteA} {k : Nat} (h : k < l.length) : codesOf (l.drop k) = or0 l[k].b.code (codesOf (l.drop (k + 1))) := by
  rw [codesOf, List.drop_eq_getElem_cons h, List.map_cons, ntsCode, codesOf]
theorem codesOf_end {l : List NteA} {k : Nat} (h : l.length ≤ k) : codesOf (l.drop k) = 0 := by
  rw [codesOf, List.drop_of_length_le h]
  rfl
theorem ntKinds {k : Int} (h : inB k 1 4 = true) : k = 1 ∨ k = 2 ∨ k = 3 ∨ k = 4 := by
  have := inB_true.1 h
  omega
theorem numsB_drop {l : List Int} {k : Nat} (h : k < l.length) : numsB (l.drop k) = (inB l[k] 0 9999 && numsB (l.drop (k + 1))) := by
  rw [numsB, List.drop_eq_getElem_cons h, List.all_cons]
  rfl
theorem numsB_end {l : List Int} {k : Nat} (h : l.length ≤ k) : numsB (l.drop k) = true := by
  rw [numsB, List.drop_of_length_le h]
  rfl
theorem allNames_drop {l : List ByteArray} {k : Nat} (h : k < l.length) : allNames (l.drop k) = (isNameL l[k].data.toList && allNames (l.drop (k + 1))) := by
  rw [allNames, List.drop_eq_getElem_cons h, List.all_cons]
  rfl
theorem allNames_end {l : List ByteArray} {k : Nat} (h : l.length ≤ k) : allNames (l.drop k) = true := by
  rw [allNames, List.drop_of_length_le h]
  rfl
/-- Of a note what its kind may have. -/
def needN (x : Nte) : Nte := if x.k = 1 then ⟨x.k, x.wo, x.e, x.ok, x.op, x.ot, x.od, x.oi, x.on, 0, [], []⟩ else if x.k = 2 then x else ⟨x.k, 0, x.e, 0, ⟨#[]⟩, ⟨#[]⟩, false, 0, [], 0, [], []⟩
theorem need_form (k wo e : Int) (ok : Int) (op ot : ByteArray) (od : Bool) (oi : Int) (on : List Int) (rc : Int) (rn : List Int) (rs : List ByteArray) (h : inB k 1 4 = true) : sameNte ⟨k, wo, e, ok, op, ot, od, oi, on, rc, rn, rs⟩ (needN ⟨k, wo, e, ok, op, ot, od, oi, on, rc, rn, rs⟩) = ntForm k wo ok op ot od oi on rc rn rs := by
  have hl : ∀ l : List Int, decide (l = []) = ((l.length : Int) == 0) := by intro l; cases l <;> simp; omega
  have hs : decide (rs = []) = ((rs.length : Int) == 0) := by cases rs <;> simp; omega
  have hp := noB_eq op
  have ht := noB_eq ot
  rcases ntKinds h with rfl | rfl | rfl | rfl
  all_goals
    rw [ntForm, h]
    simp only [needN, sameNte, sameO, noOp, noRep]
    simp only [reduceIte, Int.reduceEq, hp, ht, hl, hs, beq_self_eq_true, decide_true, Int.reduceBEq]
    generalize noB op = xp
    generalize noB ot = xt
    generalize ((on.length : Int) == 0) = xn
    generalize ((rn.length : Int) == 0) = xr
    generalize ((rs.length : Int) == 0) = xs
    generalize (oi == 0) = xi
    generalize (ok == 0) = xo
    generalize (wo == 0) = xw
    generalize (rc == 0) = xc
    revert xp xt xn xr xs xi xo xw xc od
    decide
end Go.Proofs.YtiopofemelninaaDoor
