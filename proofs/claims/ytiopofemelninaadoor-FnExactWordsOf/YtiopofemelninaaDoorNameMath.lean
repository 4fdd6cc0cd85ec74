/-
  Plain facts on names (no Go in sight): 'isName' of bytes, and how Go's range over a string reads bytes below 128.
-/
import Derived.Test.YtiopofemelninaaDoorBase
import Derived.WalkKit
import Derived.Lib.OthersKept
import Derived.WalkSmall
namespace Go.Proofs.YtiopofemelninaaDoor
open Go.RowKit

/-- A byte 'a' to 'z'. -/
def lowB (b : UInt8) : Bool := 97 ≤ b.toNat && b.toNat ≤ 122

/-- 1 to 6 bytes 'a' to 'z'. -/
def isNameL (l : List UInt8) : Bool := decide (1 ≤ l.length) && decide (l.length ≤ 6) && l.all lowB

theorem width_pos (s : ByteArray) (pos : Nat) (h : pos < s.size) : 1 ≤ (Utf8.decode s pos).2 := by
  by_cases ha : (s[pos]'h).toNat < 128
  · rw [decode_ascii s pos h ha]
    exact Nat.le_refl _
  · exact (decode_high s pos h (by omega)).2

/-- A rune that lies between 97 and 122 is one byte. -/
theorem decode_low (s : ByteArray) (pos : Nat) (h : pos < s.size) (h1 : 97 ≤ (Utf8.decode s pos).1) (h2 : (Utf8.decode s pos).1 ≤ 122) :
    Utf8.decode s pos = ((s[pos]'h).toNat, 1) := by
  by_cases ha : (s[pos]'h).toNat < 128
  · exact decode_ascii s pos h ha
  · have := (decode_high s pos h (by omega)).1
    omega

theorem decode_not_low (s : ByteArray) (pos : Nat) (h : pos < s.size) (h1 : ¬ (97 ≤ (Utf8.decode s pos).1 ∧ (Utf8.decode s pos).1 ≤ 122)) :
    lowB (s[pos]'h) = false := by
  by_cases ha : (s[pos]'h).toNat < 128
  · rw [decode_ascii s pos h ha] at h1
    simp only [lowB, Bool.and_eq_false_iff, decide_eq_false_iff_not]
    simp only at h1
    omega
  · simp only [lowB, Bool.and_eq_false_iff, decide_eq_false_iff_not]
    omega

theorem all_false {l : List UInt8} {k : Nat} (h : k < l.length) (hf : lowB l[k] = false) : l.all lowB = false := by
  rw [Bool.eq_false_iff]
  intro ht
  rw [List.all_eq_true] at ht
  have := ht l[k] (List.getElem_mem h)
  rw [hf] at this
  cases this

theorem all_take_succ {l : List UInt8} {k : Nat} (h : k < l.length) (ha : (l.take k).all lowB = true) (hb : lowB l[k] = true) : (l.take (k + 1)).all lowB = true := by
  rw [List.take_succ_eq_append_getElem h, List.all_append, ha]
  simp [hb]

end Go.Proofs.YtiopofemelninaaDoor
