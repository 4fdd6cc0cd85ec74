/-
  Plain facts on nodes and numbers (no Go in sight).
-/
import Derived.Test.YtiopofemelninaaDoorInMath
import Derived.Test.YtiopofemelninaaDoorNameMath
namespace Go.Proofs.YtiopofemelninaaDoor
open Go.RowKit

/-- The numbers of a node are right. -/
def nodeNums (u : Int) (d : Bool) (p s : Int) : Bool := inB u 1 999 && inB p 0 999 && !(p == u) && inB s 0 4 && !(d && !(s == 0))
/-- The code of a node. -/
def nodeCode (u : Int) (d : Bool) (p : Int) (l : List UInt8) (s : Int) : Int := if nodeNums u d p s = true then if isNameL l = true then 0 else 5 else 3

theorem nodeCode_three {u : Int} {d : Bool} {p : Int} {l : List UInt8} {s : Int} (h : nodeNums u d p s = false) : nodeCode u d p l s = 3 := by simp [nodeCode, h]
theorem nodeCode_five {u : Int} {d : Bool} {p : Int} {l : List UInt8} {s : Int} (h : nodeNums u d p s = true) (h2 : isNameL l = false) : nodeCode u d p l s = 5 := by simp [nodeCode, h, h2]
theorem nodeCode_zero {u : Int} {d : Bool} {p : Int} {l : List UInt8} {s : Int} (h : nodeNums u d p s = true) (h2 : isNameL l = true) : nodeCode u d p l s = 0 := by simp [nodeCode, h, h2]
theorem nodeCode_eq0 {u : Int} {d : Bool} {p : Int} {l : List UInt8} {s : Int} (h : nodeCode u d p l s = 0) : nodeNums u d p s = true ∧ isNameL l = true := by
  unfold nodeCode at h
  split at h
  · split at h
    · constructor <;> assumption
    · omega
  · omega

/-- Its parent is right. -/
def parentOk (u p : Int) : Bool := inB p 0 999 && !(p == u)
/-- Its size is right. -/
def nsizeOk (d : Bool) (s : Int) : Bool := if d = true then s == 0 else inB s 0 4
theorem nodeNums_parts (u : Int) (d : Bool) (p s : Int) : nodeNums u d p s = (inB u 1 999 && parentOk u p && nsizeOk d s) := by
  unfold nodeNums parentOk nsizeOk
  cases d
  · simp [Bool.and_assoc]
  · by_cases hs : s = 0
    · subst hs; simp [inB, Bool.and_assoc]
    · have h0 : (s == 0) = false := by simpa using hs
      rw [h0]; simp

/-- The code of a piece's numbers. -/
def numsCode (l : List Int) : Int := if l.length = 4 then if l.all (fun n => inB n 0 9999) = true then 0 else 3 else 2
theorem numsCode_two {l : List Int} (h : l.length ≠ 4) : numsCode l = 2 := by simp [numsCode, h]
theorem numsCode_three {l : List Int} (h : l.length = 4) {k : Nat} (hk : k < l.length) (hf : inB l[k] 0 9999 = false) : numsCode l = 3 := by
  rw [numsCode, if_pos h, if_neg]
  intro hq
  rw [List.all_eq_true] at hq
  rw [hq _ (List.getElem_mem hk)] at hf; cases hf
theorem numsCode_zero {l : List Int} (h : l.length = 4) (ha : ∀ j (hj : j < l.length), inB l[j] 0 9999 = true) : numsCode l = 0 := by
  rw [numsCode, if_pos h, if_pos]
  rw [List.all_eq_true]
  intro x hx
  obtain ⟨j, hj, rfl⟩ := List.getElem_of_mem hx
  exact ha j hj
theorem numsCode_eq0 {l : List Int} (h : numsCode l = 0) : l.length = 4 ∧ ∀ x ∈ l, inB x 0 9999 = true := by
  unfold numsCode at h
  split at h
  · split at h
    · rename_i h1 h2
      exact ⟨h1, fun x hx => List.all_eq_true.1 h2 x hx⟩
    · omega
  · omega

end Go.Proofs.YtiopofemelninaaDoor
