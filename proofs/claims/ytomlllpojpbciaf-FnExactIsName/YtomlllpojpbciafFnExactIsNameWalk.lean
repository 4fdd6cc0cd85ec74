/-
  The walk of laws.FnExactIsName: it returns true, and writes nothing that was there.
-/
import Derived.Test.YtomlllpojpbciafIsNameWalk
namespace Go.Proofs.Ytomlllpojpbciaf
open Go.RowKit

/-- Behind impl.IsName at most a string's iterator is new. -/
theorem below_iter {w w' : World} {s : ByteArray} (h : w' = w ∨ ∃ pos, w' = w.iter s pos) : Below w.heap.size w w' := by
  rcases h with rfl | ⟨pos, rfl⟩
  · exact Below.refl _ _
  · exact (Below.refl _ _).alloc (Nat.le_refl _) _

theorem bool_neq_self (b : Bool) : (b != b) = false := by cases b <;> rfl

namespace fnExactIsName
set_option maxHeartbeats 400000 in
theorem walk (s : ByteArray) (w : World) (hs : s.size ≤ maxLen) :
    Calls Try.prog 3 #[.string s] w fun e w' => e = .returned (.bool true) ∧ Below w.heap.size w w' := by
  by_cases h : 1048576 < (s.size : Int)
  · go_enter Try.func3, Try.ntmps3
    go_wp2
    go_ret
    exact ⟨rfl, Below.refl _ _⟩
  · have hn := bool_neq_self (isNameL s.data.toList)
    go_enter Try.func3, Try.ntmps3
    go_wp2_with fail
    refine (specIsName_any s _ hs).mono ?_
    rintro e w1 ⟨rfl, rfl⟩
    go_wp2_with fail
    refine (implIsName_any s _ hs).mono ?_
    rintro e w2 ⟨rfl, hw⟩
    have hb := below_iter hw
    clear hw
    go_wp2_with fail
    go_ret
    exact ⟨rfl, hb⟩
end fnExactIsName
end Go.Proofs.Ytomlllpojpbciaf
