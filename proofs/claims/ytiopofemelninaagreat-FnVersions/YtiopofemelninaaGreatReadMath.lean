/-
  What a block's words tell (no Go in sight).
-/
import Derived.Test.YtiopofemelninaaGreatWordHeadWalk
import Derived.Test.YtiopofemelninaaGreatWordNameWalk
import Derived.Test.YtiopofemelninaaGreatPackMath
namespace Go.Proofs.YtiopofemelninaaGreat
open Go.RowKit

/-- The name of a word, or none. -/
def nmOf (n : Int) : ByteArray := ⟨(l1wn 7 n []).toArray⟩
theorem wnVal_text (n : Int) : ∃ c, wnVal n = .agg #[.int .i64 c, .string (nmOf n)] := by
  unfold wnVal nmOf
  split
  · rename_i h; rw [h]; exact ⟨_, rfl⟩
  · exact ⟨_, rfl⟩
theorem l1wn_len : ∀ (f : Nat) (n : Int) (out : List UInt8), out.length ≤ 6 → (l1wn f n out).length ≤ 6
  | 0, _, out, h => by simpa [l1wn] using h
  | f + 1, n, out, h => by
    rw [l1wn]
    split
    · exact h
    · split
      · simp
      · rename_i h2
        exact l1wn_len f _ _ (by simp; omega)
theorem nmOf_size (n : Int) : (nmOf n).size ≤ maxLen := by
  have : (nmOf n).size = (l1wn 7 n []).length := by simp [nmOf, ByteArray.size]
  have := l1wn_len 7 n [] (by simp)
  unfold maxLen; omega

/-- A block's fields. -/
structure Blk where
  k : Int
  u : Int
  i : Int
  e : Int
  nu : Int
  nd : Bool
  np : Int
  nn : ByteArray
  ns : Int
  nl : List Int
def Blk.none : Blk := ⟨0, 0, 0, 0, 0, false, 0, ⟨#[]⟩, 0, []⟩
/-- Its value, the numbers at v. -/
abbrev blkV (B : Blk) (v : Value) : Array Value := #[.int .i64 B.k, .int .i64 B.u, .int .i64 B.i, .int .i64 B.e, .int .i64 B.nu, .bool B.nd, .int .i64 B.np, .string B.nn, .int .i64 B.ns, v]

/-- What the words of a head and four more tell, by kind. -/
def toldBlk (x0 x1 x2 x3 x4 : Int) : Blk :=
  if x0 % 4 = 1 then ⟨1, x0 / 16 % 1000, 0, x0 / 16000, x0 / 16 % 1000, x1 == 1, x2, nmOf x3, x4, []⟩
  else if x0 % 4 = 2 then ⟨2, x0 / 16 % 1000, x0 / 4 % 4, x0 / 16000, 0, false, 0, ⟨#[]⟩, 0, [x1, x2, x3, x4]⟩
  else if x0 % 4 = 3 then ⟨3, x0 / 16 % 1000, 0, x0 / 16000, 0, false, 0, ⟨#[]⟩, 0, []⟩
  else Blk.none
/-- The code and the words that it makes again. -/
def againCode (x0 x1 x2 x3 x4 : Int) : Int :=
  if x0 % 4 = 1 then nodePCode (x0 / 16 % 1000) (x1 == 1) x2 (nmOf x3).data.toList x4 (x0 / 16000)
  else if x0 % 4 = 2 then dataCode (x0 / 16 % 1000) (x0 / 4 % 4) [x1, x2, x3, x4] (x0 / 16000)
  else goneCode (x0 / 16 % 1000) (x0 / 16000)
def againWords (x0 x1 x2 x3 x4 : Int) : List Int :=
  if x0 % 4 = 1 then nodeWords (x0 / 16 % 1000) (x1 == 1) x2 (nmOf x3).data.toList x4 (x0 / 16000)
  else if x0 % 4 = 2 then dataWords (x0 / 16 % 1000) (x0 / 4 % 4) [x1, x2, x3, x4] (x0 / 16000)
  else goneWords (x0 / 16 % 1000) (x0 / 16000)
def readCode : List Int → Int
  | [x0, x1, x2, x3, x4, x5, x6, x7] => if whOk x0 = true then if x0 % 4 = 0 then 0 else if againCode x0 x1 x2 x3 x4 = 0 ∧ againWords x0 x1 x2 x3 x4 = [x0, x1, x2, x3, x4, x5, x6, x7] then 0 else 5 else 1
  | _ => 2
def readBlk : List Int → Blk
  | [x0, x1, x2, x3, x4, x5, x6, x7] => if readCode [x0, x1, x2, x3, x4, x5, x6, x7] = 0 then toldBlk x0 x1 x2 x3 x4 else Blk.none
  | _ => Blk.none
theorem readCode_two {l : List Int} (h : l.length ≠ 8) : readCode l = 2 := by
  unfold readCode
  split
  · simp at h
  · rfl
theorem readBlk_two {l : List Int} (h : l.length ≠ 8) : readBlk l = Blk.none := by
  unfold readBlk
  split
  · simp at h
  · rfl
theorem eight {l : List Int} (h : l.length = 8) : ∃ x0 x1 x2 x3 x4 x5 x6 x7, l = [x0, x1, x2, x3, x4, x5, x6, x7] := by
  match l, h with
  | [x0, x1, x2, x3, x4, x5, x6, x7], _ => exact ⟨x0, x1, x2, x3, x4, x5, x6, x7, rfl⟩
/-- An answer of a block: its code, its fields, and numbers of its own. -/
def BRes (base : Nat) (w' : World) (r : Ending) (c : Int) (B : Blk) : Prop := ∃ v, r = .returned (.agg (#[.int .i64 c] ++ blkV B v)) ∧ w'.ownsRow base 2 1 v B.nl.length (nums B.nl)
end Go.Proofs.YtiopofemelninaaGreat
