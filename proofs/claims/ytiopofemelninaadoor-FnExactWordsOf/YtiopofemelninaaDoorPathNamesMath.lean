/-
  The names of a path (no Go in sight).
-/
import Derived.Test.YtiopofemelninaaDoorCutMath
import Derived.Test.YtiopofemelninaaDoorNameMath
import Derived.Test.YtiopofemelninaaDoorStrsMath
namespace Go.Proofs.YtiopofemelninaaDoor
open Go.RowKit

/-- The names of a path, or nothing where it is none. -/
def pathParse (l : List UInt8) : Option (List (List UInt8)) :=
  if l = [47] then some [] else match cutL l with
    | [] :: x :: r => if (x :: r).all isNameL = true then some (x :: r) else none
    | _ => none

/-- The code of PathNames, and its words. -/
def pnCode (l : List UInt8) : Int := match pathParse l with
  | none => 5
  | some r => if 4 < r.length then 2 else 0
def pnWords (l : List UInt8) : List (List UInt8) := match pathParse l with
  | none => []
  | some r => if 4 < r.length then [] else r

theorem parse_root : pathParse [47] = some [] := rfl

theorem parse_rest (l : List UInt8) (h : l ≠ []) : pathParse (47 :: l) = if (cutL l).all isNameL = true then some (cutL l) else none := by
  have h1 : (47 :: l) ≠ [47] := by simpa using h
  have h2 : cutL (47 :: l) = [] :: cutL l := by simp [cutL]
  rw [pathParse, if_neg h1, h2]
  cases hc : cutL l with
  | nil => exact absurd hc (cutL_ne l)
  | cons x r => rfl

theorem parse_bare (l : List UInt8) (h : ∀ r, l ≠ 47 :: r) : pathParse l = none := by
  have h1 : l ≠ [47] := h []
  rw [pathParse, if_neg h1]
  cases l with
  | nil => simp [cutL]
  | cons b l =>
    have hb : b ≠ 47 := fun e => h l (by rw [e])
    rw [cutL, if_neg hb]
    cases cutL l with
    | nil => rfl
    | cons x r => rfl

theorem parse_len {l : List UInt8} {ps : List ByteArray} {m : Nat} (h : pathParse l = some (ps.map (·.data.toList))) (hl : l.length + 1 ≤ m) : ps.length ≤ m := by
  have hc := cutL_length l
  rw [pathParse] at h
  split at h
  · have : (ps.map (·.data.toList)) = [] := (Option.some.inj h).symm
    have : ps.length = 0 := by simpa using congrArg List.length this
    omega
  · split at h
    · rename_i x r e
      split at h
      · have h1 := congrArg List.length (Option.some.inj h)
        rw [e] at hc
        simp at h1 hc
        omega
      · cases h
    · cases h

/-- A row of the call's own, as a slice of strings that may be read. -/
theorem strsAt_own {w : World} {base : Nat} {e : TypeId} {v : Value} {ps : List ByteArray} (h : w.ownsRow base e 1 v ps.length (ps.map Value.string)) :
    ∃ a c, v = .slice a ps.length c ∧ StrsAt w a ps ∧ ps.length ≤ c ∧ c ≤ maxLen := by
  rcases h.2 with ⟨rfl, h0⟩ | ⟨g, cap, cur, rfl, hg, hh, hn, hc, hs, ht⟩
  · exact ⟨none, 0, by rw [h0], .inl (List.length_eq_zero_iff.1 h0), by omega, by omega⟩
  · refine ⟨_, cap, rfl, ?_, hn, hc⟩
    by_cases h0 : ps = []
    · exact .inl h0
    · refine .inr ⟨g, 0, rfl, (Array.getElem?_eq_some_iff.1 hh).1, fun i hi => ?_⟩
      rw [Nat.zero_add, h.cellAt i (by omega)]
      simp [hi]

theorem map_isName (ps : List ByteArray) : (ps.map (·.data.toList)).all isNameL = ps.all (fun s => isNameL s.data.toList) := by
  rw [List.all_map]; rfl

end Go.Proofs.YtiopofemelninaaDoor
