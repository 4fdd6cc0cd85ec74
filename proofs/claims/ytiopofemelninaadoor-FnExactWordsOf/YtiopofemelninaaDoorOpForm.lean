/-
  What an op's form and an op's code are.
-/
import Derived.Test.YtiopofemelninaaDoorPathNamesMath
import Derived.Test.YtiopofemelninaaDoorNodeMath
import Derived.Test.YtiopofemelninaaDoorInMath
namespace Go.Proofs.YtiopofemelninaaDoor
open Go.RowKit
set_option linter.unusedVariables false

def noB (p : ByteArray) : Bool := decide (p.toList = [])
def opForm (k : Int) (p t : ByteArray) (d : Bool) (i : Int) (nl : List Int) : Bool := inB k 1 8 && (!(k == 8) || noB p) && ((k == 5) || noB t) && ((k == 2) || ((nl.length : Int) == 0)) && ((k == 2) || (k == 3) || (i == 0)) && ((k == 1) || !d)
def or0 (x y : Int) : Int := if x = 0 then y else x
def opCode (k : Int) (p t : ByteArray) (d : Bool) (i : Int) (nl : List Int) : Int := if opForm k p t d i nl = true then or0 (if k = 8 then 0 else pnCode p.data.toList) (or0 (if k = 5 then pnCode t.data.toList else 0) (if inB i 0 (if k = 2 then 3 else 4) = true then (if k = 2 then numsCode nl else 0) else 3)) else 1
theorem kinds {k : Int} (h : inB k 1 8 = true) : k = 1 ∨ k = 2 ∨ k = 3 ∨ k = 4 ∨ k = 5 ∨ k = 6 ∨ k = 7 ∨ k = 8 := by
  have := inB_true.1 h
  omega
theorem noB_is (p : ByteArray) : (p.toList = []) = (noB p = true) := by simp [noB]
theorem noB_eq (p : ByteArray) : (p.toList == (⟨#[]⟩ : ByteArray).toList) = noB p := by
  have h : (⟨#[]⟩ : ByteArray).toList = [] := by first | simp | (rw [ByteArray.toList]; unfold ByteArray.toList.loop; simp)
  rw [h, noB]
  cases p.toList <;> simp
theorem opCode_yes {k : Int} {p t : ByteArray} {d : Bool} {i : Int} {nl : List Int} (h : opForm k p t d i nl = true) : opCode k p t d i nl = or0 (if k = 8 then 0 else pnCode p.data.toList) (or0 (if k = 5 then pnCode t.data.toList else 0) (if inB i 0 (if k = 2 then 3 else 4) = true then (if k = 2 then numsCode nl else 0) else 3)) := by rw [opCode, if_pos h]
theorem opCode_no {k : Int} {p t : ByteArray} {d : Bool} {i : Int} {nl : List Int} (h : opForm k p t d i nl = false) : opCode k p t d i nl = 1 := by rw [opCode, if_neg (by rw [h]; decide)]
theorem or0_left {x y : Int} (h : x ≠ 0) : or0 x y = x := by rw [or0, if_neg h]
theorem or0_right {x y : Int} (h : x = 0) : or0 x y = y := by rw [or0, if_pos h]
theorem neq_true {x : Int} (h : x ≠ 0) : (x != 0) = true := by simpa using h
theorem neq_false {x : Int} (h : x = 0) : (x != 0) = false := by simpa using h
end Go.Proofs.YtiopofemelninaaDoor
