/-
  What is packed (no Go in sight).
-/
import Derived.Test.YtiopofemelninaaGreatHeadWordWalk
import Derived.Test.YtiopofemelninaaGreatNameWordWalk
import Derived.Test.YtiopofemelninaaGreatOrWalk
namespace Go.Proofs.YtiopofemelninaaGreat
open Go.RowKit

def goneCode (u e : Int) : Int := headCode 3 u 0 e
def goneWords (u e : Int) : List Int := if goneCode u e = 0 then [headWordI 3 u 0 e, 0, 0, 0, 0, 0, 0, 0] else []
def nodePCode (u : Int) (d : Bool) (p : Int) (l : List UInt8) (s e : Int) : Int := orI (nodeCode u d p l s) (headCode 1 u 0 e)
def nodeKindI (d : Bool) : Int := if d = true then 1 else 2
def nodeWords (u : Int) (d : Bool) (p : Int) (l : List UInt8) (s e : Int) : List Int := if nodePCode u d p l s e = 0 then [headWordI 1 u 0 e, nodeKindI d, p, nameWordL l, s, 0, 0, 0] else []
def dataCode (u i : Int) (l : List Int) (e : Int) : Int := orI (headCode 2 u i e) (numsCode l)
def dataWords (u i : Int) (l : List Int) (e : Int) : List Int := if dataCode u i l e = 0 then headWordI 2 u i e :: (l ++ [0, 0, 0]) else []

theorem orI_zero {x y : Int} (h : orI x y = 0) : x = 0 ∧ y = 0 := by
  unfold orI at h
  split at h
  · constructor <;> assumption
  · omega
theorem headCode_ok {k u i e : Int} (h : headCode k u i e = 0) : headOk k u i e = true := by
  unfold headCode at h
  split at h
  · assumption
  · omega
theorem headCode_cases (k u i e : Int) : headCode k u i e = 0 ∨ headCode k u i e = 3 := by
  unfold headCode; split <;> simp
theorem goneCode_eq (u e : Int) : goneCode u e = if (inB u 1 999 && inB e 1 9999) = true then 0 else 3 := by
  unfold goneCode headCode headOk
  simp [inB]
theorem headCode1_eq (u e : Int) : headCode 1 u 0 e = if (inB u 1 999 && inB e 1 9999) = true then 0 else 3 := by
  unfold headCode headOk
  simp [inB]
theorem headCode2_eq (u i e : Int) : headCode 2 u i e = if (inB u 1 999 && inB i 0 3 && inB e 1 9999) = true then 0 else 3 := by
  unfold headCode headOk
  simp [inB]

theorem goneWords_len (u e : Int) : (goneWords u e).length ≤ 1048576 := by unfold goneWords; split <;> simp
theorem nodeWords_len (u : Int) (d : Bool) (p : Int) (l : List UInt8) (s e : Int) : (nodeWords u d p l s e).length ≤ 1048576 := by unfold nodeWords; split <;> simp
theorem dataWords_len (u i : Int) (l : List Int) (e : Int) : (dataWords u i l e).length ≤ 1048576 := by
  unfold dataWords
  split
  · rename_i h
    have := (numsCode_eq0 (orI_zero h).2).1
    simp [this]
  · simp

/-- An answer of words: its code, and a row of its own from block base on. -/
def WRes (base : Nat) (w' : World) (r : Ending) (c : Int) (l : List Int) : Prop := ∃ v, r = .returned (.agg #[.int .i64 c, v]) ∧ w'.ownsRow base 2 1 v l.length (nums l)
end Go.Proofs.YtiopofemelninaaGreat
