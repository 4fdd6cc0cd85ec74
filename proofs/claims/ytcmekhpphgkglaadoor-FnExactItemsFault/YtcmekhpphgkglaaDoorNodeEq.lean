/-
  When two nodes are one.
-/
import Derived.Test.YtcmekhpphgkglaaDoorRowMath
import Derived.Test.YtcmekhpphgkglaaDoorProg
import Derived.WalkKit
import Derived.WalkLawsBesides
import Derived.Laws.StructEq
namespace Go.Proofs.YtcmekhpphgkglaaDoor
open Go.RowKit
set_option linter.unusedVariables false

theorem bytes_loop (a : ByteArray) : ∀ (n i : Nat) (r : List UInt8), a.size - i = n → ByteArray.toList.loop a i r = r.reverse ++ a.data.toList.drop i
  | 0, i, r, h => by
    rw [ByteArray.toList.loop, if_neg (by omega), List.drop_eq_nil_of_le (by show a.data.toList.length ≤ i; rw [Array.length_toList]; exact Nat.le_of_sub_eq_zero h)]
    simp
  | n + 1, i, r, h => by
    have hi : i < a.size := by omega
    have hi2 : i < a.data.toList.length := by rw [Array.length_toList]; exact hi
    rw [ByteArray.toList.loop, if_pos hi, bytes_loop a n (i + 1) _ (by omega), List.drop_eq_getElem_cons hi2]
    have : a.get! i = a.data.toList[i] := by
      simp [ByteArray.get!, getElem!_pos, hi]
    rw [this]; simp
theorem bytes_toList_inj {a b : ByteArray} (h : a.toList = b.toList) : a = b := by
  have e : ∀ x : ByteArray, x.toList = x.data.toList := fun x => by
    rw [ByteArray.toList, bytes_loop x _ 0 [] rfl]; simp
  rw [e, e] at h
  cases a; cases b
  simp at h
  simpa using h

end Go.Proofs.YtcmekhpphgkglaaDoor
