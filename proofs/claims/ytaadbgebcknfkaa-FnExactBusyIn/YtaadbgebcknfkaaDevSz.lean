/-
  What the laws' own sizes of devices answer.
-/
import Derived.Test.YtaadbgebcknfkaaProg
import Derived.Test.YtaadbgebcknfkaaRowMath
import Derived.WalkKit
import Derived.WalkLawsBesides
namespace Go.Proofs.Ytaadbgebcknfkaa
open Go.RowKit

/-- What is left behind n more. -/
def Left (left n r : Int) : Prop := (r < 0 ∧ left < n) ∨ (r = left - n ∧ n ≤ left)

set_option maxHeartbeats 1000000 in
theorem szInt64S_any (a : Option Addr) (n c : Nat) (left : Int) (w : World) (h0 : 0 ≤ left) (h1 : left ≤ 1048576) (hn : n ≤ maxLen) :
    Calls Try.prog 60 #[.slice a n c, .int .i64 left] w fun e w' => (∃ r, e = .returned (.int .i64 r) ∧ Left left n r) ∧ w' = w := by
  unfold maxLen at hn
  by_cases h : left - n < 0
  · go_enter Try.func60, Try.ntmps60
    go_wp2
    go_ret
    exact ⟨⟨-1, rfl, .inl ⟨by omega, by omega⟩⟩, rfl⟩
  · go_enter Try.func60, Try.ntmps60
    go_wp2
    go_ret
    exact ⟨⟨_, rfl, .inr ⟨rfl, by omega⟩⟩, rfl⟩
set_option maxHeartbeats 1000000 in
theorem szCellS_any (a : Option Addr) (n c : Nat) (left : Int) (w : World) (h0 : 0 ≤ left) (h1 : left ≤ 1048576) (hn : n ≤ maxLen) :
    Calls Try.prog 97 #[.slice a n c, .int .i64 left] w fun e w' => (∃ r, e = .returned (.int .i64 r) ∧ Left left n r) ∧ w' = w := by
  unfold maxLen at hn
  by_cases h : left - n < 0
  · go_enter Try.func97, Try.ntmps97
    go_wp2
    go_ret
    exact ⟨⟨-1, rfl, .inl ⟨by omega, by omega⟩⟩, rfl⟩
  · go_enter Try.func97, Try.ntmps97
    go_wp2
    go_ret
    exact ⟨⟨_, rfl, .inr ⟨rfl, by omega⟩⟩, rfl⟩
set_option maxHeartbeats 1000000 in
theorem szDevice_any (a1 a2 a3 : Option Addr) (n1 c1 n2 c2 n3 c3 : Nat) (left : Int) (w : World) (h0 : 0 ≤ left) (h1 : left ≤ 1048576) (hn1 : n1 ≤ maxLen) (hn2 : n2 ≤ maxLen) (hn3 : n3 ≤ maxLen) :
    Calls Try.prog 57 #[.agg #[.slice a1 n1 c1, .slice a2 n2 c2, .slice a3 n3 c3], .int .i64 left] w fun e w' => (∃ r, e = .returned (.int .i64 r) ∧ Left left ((n1 : Int) + n2 + n3) r) ∧ Below w.heap.size w w' := by
  have hal : ∀ o, Below w.heap.size w (w.alloc o) := fun o => (Below.refl _ _).alloc (Nat.le_refl _) _
  go_enter Try.func57, Try.ntmps57
  go_wp2_with fail
  refine (szInt64S_any a1 n1 c1 left _ h0 h1 hn1).mono ?_
  rintro e w1 ⟨⟨r1, rfl, hr1⟩, rfl⟩
  by_cases hv : r1 < 0
  · have hl : left < n1 := by rcases hr1 with h | h <;> omega
    clear hr1
    go_wp2_with fail
    go_ret
    exact ⟨⟨_, rfl, .inl ⟨by omega, by omega⟩⟩, hal _⟩
  obtain ⟨rfl, hl1⟩ : r1 = left - n1 ∧ (n1 : Int) ≤ left := by rcases hr1 with h | h; (omega); exact h
  clear hr1
  go_wp2_with fail
  refine (szCellS_any a2 n2 c2 _ _ (by omega) (by omega) hn2).mono ?_
  rintro e w1 ⟨⟨r1, rfl, hr1⟩, rfl⟩
  by_cases hv2 : r1 < 0
  · have hl : left - n1 < n2 := by rcases hr1 with h | h <;> omega
    clear hr1
    go_wp2_with fail
    go_ret
    exact ⟨⟨_, rfl, .inl ⟨by omega, by omega⟩⟩, hal _⟩
  obtain ⟨rfl, hl2⟩ : r1 = left - n1 - n2 ∧ (n2 : Int) ≤ left - n1 := by rcases hr1 with h | h; (omega); exact h
  clear hr1
  go_wp2_with fail
  refine (szCellS_any a3 n3 c3 _ _ (by omega) (by omega) hn3).mono ?_
  rintro e w1 ⟨⟨r1, rfl, hr1⟩, rfl⟩
  by_cases hv3 : r1 < 0
  · have hl : left - n1 - n2 < n3 := by rcases hr1 with h | h <;> omega
    clear hr1
    go_wp2_with fail
    go_ret
    exact ⟨⟨_, rfl, .inl ⟨by omega, by omega⟩⟩, hal _⟩
  obtain ⟨rfl, hl3⟩ : r1 = left - n1 - n2 - n3 ∧ (n3 : Int) ≤ left - n1 - n2 := by rcases hr1 with h | h; (omega); exact h
  clear hr1
  go_wp2_with fail
  go_ret
  exact ⟨⟨_, rfl, .inr ⟨by omega, by omega⟩⟩, hal _⟩
end Go.Proofs.Ytaadbgebcknfkaa
