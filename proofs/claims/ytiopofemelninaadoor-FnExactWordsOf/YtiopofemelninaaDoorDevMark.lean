/-
  What the laws' own marks on devices answer: numbers are laid into its rows, one behind the other, and read back.
-/
import Derived.Test.YtiopofemelninaaDoorProg
import Derived.Test.YtiopofemelninaaDoorOwnDev
import Derived.WalkKit
import Derived.WalkLawsBesides
import Derived.OwnWalk
namespace Go.Proofs.YtiopofemelninaaDoor
open Go.RowKit

def numsFrom (m : Int) (n : Nat) : List Int := (List.range n).map fun (j : Nat) => m + (j : Int)
def pairsFrom (m : Int) (n : Nat) : List (Int × Int) := (List.range n).map fun (j : Nat) => (m + 2 * (j : Int), m + 2 * (j : Int) + 1)
theorem numsFrom_length (m : Int) (n : Nat) : (numsFrom m n).length = n := by simp [numsFrom]
theorem pairsFrom_length (m : Int) (n : Nat) : (pairsFrom m n).length = n := by simp [pairsFrom]
theorem numsFrom_at (m : Int) (n j : Nat) (h : j < n) : (numsFrom m n)[j]'(by rw [numsFrom_length]; exact h) = m + (j : Int) := by simp [numsFrom]
theorem pairsFrom_at (m : Int) (n j : Nat) (h : j < n) : (pairsFrom m n)[j]'(by rw [pairsFrom_length]; exact h) = (m + 2 * (j : Int), m + 2 * (j : Int) + 1) := by simp [pairsFrom]
theorem numsFrom_succ (m : Int) (n : Nat) : numsFrom m (n + 1) = numsFrom m n ++ [m + (n : Int)] := by simp [numsFrom, List.range_succ]
theorem pairsFrom_succ (m : Int) (n : Nat) : pairsFrom m (n + 1) = pairsFrom m n ++ [(m + 2 * (n : Int), m + 2 * (n : Int) + 1)] := by simp [pairsFrom, List.range_succ]

theorem take_step {ys : List Value} {k : Nat} {v : Value} {l : List Value} (h : ys.take k = l) (hk : k < ys.length) : (ys.set k v).take (k + 1) = l ++ [v] := by
  rw [List.take_succ_eq_append_getElem (by simp; omega), List.take_set_of_le (by omega), h]
  simp


/-- The device with its marks. -/
def markedDev (D : Dev) (m : Int) : Dev := ⟨numsFrom m D.words.length, pairsFrom (m + D.words.length) D.flights.length, pairsFrom (m + D.words.length + 2 * D.flights.length) D.over.length⟩
def markedTo (D : Dev) (m : Int) : Int := m + D.words.length + 2 * D.flights.length + 2 * D.over.length

end Go.Proofs.YtiopofemelninaaDoor
