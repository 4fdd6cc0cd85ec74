/-
  Plain facts on heads (no Go in sight).
-/
import Derived.Test.YtiopofemelninaaGreatInMath
import Derived.WalkKit
namespace Go.Proofs.YtiopofemelninaaGreat
open Go.RowKit

/-- A head of these is right. -/
def headOk (k u i e : Int) : Bool :=
  if k = 0 then decide (u = 0) && decide (i = 0) && decide (e = 0)
  else inB k 1 3 && inB u 1 999 && inB i 0 3 && (decide (k = 2) || decide (i = 0)) && inB e 1 9999

/-- The code of a head. -/
def headCode (k u i e : Int) : Int := if headOk k u i e = true then 0 else 3

theorem headCode_zero {k u i e : Int} (h : headOk k u i e = true) : headCode k u i e = 0 := by simp [headCode, h]
theorem headCode_three {k u i e : Int} (h : headOk k u i e = false) : headCode k u i e = 3 := by simp [headCode, h]

theorem headOk_bounds {k u i e : Int} (h : headOk k u i e = true) : 0 ≤ k ∧ k ≤ 3 ∧ 0 ≤ u ∧ u ≤ 999 ∧ 0 ≤ i ∧ i ≤ 3 ∧ 0 ≤ e ∧ e ≤ 9999 := by
  unfold headOk at h
  split at h
  · simp at h; omega
  · simp [inB] at h; omega

theorem headCode_eq0 (k u i e : Int) : (headCode k u i e == 0) = headOk k u i e := by
  cases h : headOk k u i e <;> simp [headCode, h]

theorem headOk_mk2 {k u i e : Int} (h1 : inB k 1 3 = true) (h2 : inB u 1 999 = true) (h3 : inB i 0 3 = true) (h4 : inB e 1 9999 = true) (hk : ¬ k = 0) (h5 : k = 2) : headOk k u i e = true := by
  rw [headOk, if_neg hk, h1, h2, h3, h4]; simp [h5]
theorem headOk_mk0 {k u i e : Int} (h1 : inB k 1 3 = true) (h2 : inB u 1 999 = true) (h3 : inB i 0 3 = true) (h4 : inB e 1 9999 = true) (hk : ¬ k = 0) (h6 : i = 0) : headOk k u i e = true := by
  rw [headOk, if_neg hk, h1, h2, h3, h4]; simp [h6]

/-- The same, of a head that is not free, with one bound for the index. -/
def usedB (k u i e : Int) : Bool := inB k 1 3 && inB u 1 999 && inB i 0 (if k = 2 then 3 else 0) && inB e 1 9999
theorem headOk_used {k u i e : Int} (hk : ¬ k = 0) : headOk k u i e = usedB k u i e := by
  rw [Bool.eq_iff_iff, headOk, if_neg hk, usedB]
  by_cases h : k = 2
  · simp [inB, h]
  · simp [inB, h]; omega

end Go.Proofs.YtiopofemelninaaGreat
