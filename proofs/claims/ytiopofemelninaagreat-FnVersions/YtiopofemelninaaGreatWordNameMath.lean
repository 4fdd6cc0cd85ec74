/-
  Plain facts on the name of a word (no Go in sight).
-/
import Derived.Test.YtiopofemelninaaGreatBase
namespace Go.Proofs.YtiopofemelninaaGreat
open Go.RowKit

/-- The letter of a digit. -/
def letterB (n : Int) : UInt8 := UInt8.ofNat (97 + n % 27 - 1).toNat

/-- The digits of n to the base 27 as letters, ahead of out; nothing where a digit is 0, or where there are more than six. -/
def l1wn : Nat → Int → List UInt8 → List UInt8
  | 0, _, out => out
  | f + 1, n, out => if n ≤ 0 then out else if n % 27 = 0 ∨ 6 ≤ out.length then [] else l1wn f (n / 27) (letterB n :: out)

theorem letterB_toNat (n : Int) : ((letterB n).toNat : Int) = 97 + n % 27 - 1 := by
  unfold letterB
  rw [UInt8.toNat_ofNat_of_lt' (by show _ < 256; omega)]
  omega

theorem encode_letter (n : Int) : Utf8.encode (97 + n % 27 - 1) = ⟨#[letterB n]⟩ := by
  have hv : Utf8.valid (97 + n % 27 - 1) = true := by simp [Utf8.valid]; omega
  have hc : (97 + n % 27 - 1).toNat < 128 := by omega
  unfold Utf8.encode
  simp only [hv, if_true, hc]
  rfl

theorem l1wn_end {f : Nat} {n : Int} {out : List UInt8} (h : n ≤ 0) : l1wn (f + 1) n out = out := by simp [l1wn, h]
theorem l1wn_no {f : Nat} {n : Int} {out : List UInt8} (h : 0 < n) (h2 : n % 27 = 0 ∨ 6 ≤ out.length) : l1wn (f + 1) n out = [] := by
  rw [l1wn, if_neg (by omega), if_pos h2]
theorem l1wn_step {f : Nat} {n : Int} {out : List UInt8} (h : 0 < n) (h1 : n % 27 ≠ 0) (h2 : out.length < 6) : l1wn (f + 1) n out = l1wn f (n / 27) (letterB n :: out) := by
  rw [l1wn, if_neg (by omega), if_neg (by omega)]

/-- Too great a word has no name. -/
theorem l1wn_great : ∀ (f : Nat) (n : Int) (out : List UInt8), out.length + f = 7 → out.length ≤ 6 → 27 ^ (6 - out.length) ≤ n → l1wn f n out = []
  | 0, _, out, h, h6, _ => by omega
  | f + 1, n, out, h, h6, hn => by
    have hp : (0 : Int) < 27 ^ (6 - out.length) := Int.pow_pos (by decide)
    by_cases h5 : 6 ≤ out.length
    · exact l1wn_no (by omega) (.inr h5)
    · by_cases hz : n % 27 = 0
      · exact l1wn_no (by omega) (.inl hz)
      · rw [l1wn_step (by omega) hz (by omega)]
        refine l1wn_great f (n / 27) _ (by simp; omega) (by simp; omega) ?_
        have e : 6 - out.length = (6 - (letterB n :: out).length) + 1 := by simp; omega
        rw [e, Int.pow_succ] at hn
        omega

theorem push_letter (b : UInt8) (out : List UInt8) : (⟨#[b]⟩ ++ ⟨out.toArray⟩ : ByteArray) = ⟨(b :: out).toArray⟩ := by
  rw [ByteArray.mk_append_mk]; simp

theorem ret_str {a b : List UInt8} (h : a = b) : Ending.returned (.string ⟨a.toArray⟩) = .returned (.string ⟨b.toArray⟩) := by rw [h]

/-- What WordName tells. -/
def wnVal (n : Int) : Value :=
  if l1wn 7 n [] = [] then .agg #[.int .i64 5, .string ⟨#[]⟩] else .agg #[.int .i64 0, .string ⟨(l1wn 7 n []).toArray⟩]

end Go.Proofs.YtiopofemelninaaGreat
