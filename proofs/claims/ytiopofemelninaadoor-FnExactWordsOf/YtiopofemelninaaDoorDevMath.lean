/-
  The device as the walks see it (no Go in sight): words and two lists of cells; what each call does to them.
-/
import Derived.Test.YtiopofemelninaaDoorInMath
import Derived.ProofKit
namespace Go.Proofs.YtiopofemelninaaDoor
open Go.RowKit

structure Dev where
  words : List Int
  flights : List (Int × Int)
  over : List (Int × Int)

def wordOk (n : Int) : Bool := inB n 0 999999999999999
def allWords (l : List Int) : Bool := l.all wordOk
def atOk (n : Nat) (a : Int) : Bool := inB a 0 ((n : Int) - 1)
def cellOk (n : Nat) (c : Int × Int) : Bool := atOk n c.1 && wordOk c.2
def allCells (n : Nat) (l : List (Int × Int)) : Bool := l.all (cellOk n)
def keys (l : List (Int × Int)) : List Int := l.map (·.1)
def uniq (l : List (Int × Int)) : Bool := decide (keys l).Nodup
def sizeOk (n : Nat) : Bool := decide (n % 8 = 0) && decide (16 ≤ n) && decide (n ≤ 328)

/-- What DeviceFault tells. -/
def devFault (D : Dev) : Int :=
  if sizeOk D.words.length = true then
    if allWords D.words = true then
      if (allCells D.words.length D.flights && allCells D.words.length D.over) = true then
        if (uniq D.flights && uniq D.over) = true then 0 else 6
      else 3
    else 3
  else 2

/-- A device without fault. -/
structure Good (D : Dev) : Prop where
  size : sizeOk D.words.length = true
  words : allWords D.words = true
  flights : allCells D.words.length D.flights = true
  over : allCells D.words.length D.over = true
  uf : (keys D.flights).Nodup
  uo : (keys D.over).Nodup

theorem devFault_cases (D : Dev) : (devFault D = 0 ∧ Good D) ∨ (devFault D = 2 ∨ devFault D = 3 ∨ devFault D = 6) := by
  unfold devFault
  by_cases h1 : sizeOk D.words.length = true
  · by_cases h2 : allWords D.words = true
    · by_cases h3 : (allCells D.words.length D.flights && allCells D.words.length D.over) = true
      · by_cases h4 : (uniq D.flights && uniq D.over) = true
        · left
          rw [if_pos h1, if_pos h2, if_pos h3, if_pos h4]
          rw [Bool.and_eq_true] at h3 h4
          exact ⟨rfl, h1, h2, h3.1, h3.2, of_decide_eq_true h4.1, of_decide_eq_true h4.2⟩
        · right; right; right; rw [if_pos h1, if_pos h2, if_pos h3, if_neg h4]
      · right; right; left; rw [if_pos h1, if_pos h2, if_neg h3]
    · right; right; left; rw [if_pos h1, if_neg h2]
  · right; left; rw [if_neg h1]

theorem devFault_good {D : Dev} (h : Good D) : devFault D = 0 := by
  unfold devFault
  rw [if_pos h.size, if_pos h.words, if_pos (by rw [Bool.and_eq_true]; exact ⟨h.flights, h.over⟩), if_pos (by rw [Bool.and_eq_true]; exact ⟨decide_eq_true h.uf, decide_eq_true h.uo⟩)]
theorem good_of {D : Dev} (h : devFault D = 0) : Good D := by
  rcases devFault_cases D with ⟨_, g⟩ | h' | h' | h'
  · exact g
  all_goals rw [h] at h'; cases h'

/-- The value of the cell at a place, if there is one. -/
def look : List (Int × Int) → Int → Option Int
  | [], _ => none
  | d :: l, a => if d.1 = a then some d.2 else look l a
def load (D : Dev) (a : Int) : Int := match look D.over a with
  | some v => v
  | none => match look D.flights a with
    | some v => v
    | none => D.words.getD a.toNat 0
/-- A cell set in a list. -/
def setC : List (Int × Int) → Int × Int → List (Int × Int)
  | [], c => [c]
  | d :: l, c => if d.1 = c.1 then c :: l else d :: setC l c
def inLine (line : Int) (c : Int × Int) : Bool := c.1 / 8 == line
def flushF (l : List (Int × Int)) (over : List (Int × Int)) (line : Int) : List (Int × Int) := (over.filter (inLine line)).foldl setC l
def flushO (over : List (Int × Int)) (line : Int) : List (Int × Int) := over.filter (fun c => !inLine line c)
def keepW (ws : List Int) (c : Int × Int) : List Int := ws.set c.1.toNat c.2
def without (l : List (Int × Int)) (a : Int) : List (Int × Int) := l.filter (fun c => c.1 != a)

def none' : Dev := ⟨[], [], []⟩
def sizeOkL (n : Nat) (line : Int) : Bool := inB line 0 ((n : Int) / 8 - 1)

end Go.Proofs.YtiopofemelninaaDoor
