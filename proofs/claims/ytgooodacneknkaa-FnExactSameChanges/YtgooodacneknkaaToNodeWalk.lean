/-
  What laws.toNode and laws.szNode answer.
-/
import Derived.Test.YtgooodacneknkaaProg
import Derived.Test.YtgooodacneknkaaDevSz
import Derived.WalkKit
import Derived.WalkLawsBesides
namespace Go.Proofs.Ytgooodacneknkaa
open Go.RowKit

/-- A node's fields as the program has them. -/
abbrev nodeV (u : Int) (d : Bool) (p : Int) (nm : ByteArray) (s : Int) : Value := .agg #[.int .i64 u, .bool d, .int .i64 p, .string nm, .int .i64 s]

set_option maxHeartbeats 1000000 in
theorem toNode_any (u : Int) (d : Bool) (p : Int) (nm : ByteArray) (s : Int) (w : World) :
    Calls Try.prog 49 #[.agg #[.int .i64 u, .bool d, .int .i64 p, .string nm, .int .i64 s]] w fun r w' => r = .returned (.agg #[.int .i64 u, .bool d, .int .i64 p, .string nm, .int .i64 s]) ∧ Below w.heap.size w w' := by
  go_enter Try.func49, Try.ntmps49
  go_wp2
  refine bodyPost_ret (v := .agg #[.int .i64 u, .bool d, .int .i64 p, .string nm, .int .i64 s]) (by simp [results, Try.results49, go_sem]) rfl ⟨rfl, ?_⟩
  repeat (first | exact Below.refl _ _ | refine Below.alloc ?_ (by simp <;> omega) _)
set_option maxHeartbeats 1000000 in
theorem szNode_any (u : Int) (d : Bool) (p : Int) (nm : ByteArray) (s : Int) (left : Int) (w : World) (h0 : 0 ≤ left) (h1 : left ≤ 1048576) (hn : nm.size ≤ maxLen) :
    Calls Try.prog 48 #[.agg #[.int .i64 u, .bool d, .int .i64 p, .string nm, .int .i64 s], .int .i64 left] w fun e w' => (∃ r, e = .returned (.int .i64 r) ∧ Left left nm.size r) ∧ Below w.heap.size w w' := by
  unfold maxLen at hn
  by_cases h : left - nm.size < 0
  · go_enter Try.func48, Try.ntmps48
    go_wp2
    go_ret
    exact ⟨⟨-1, rfl, .inl ⟨by omega, by omega⟩⟩, (Below.refl _ _).alloc (Nat.le_refl _) _⟩
  · go_enter Try.func48, Try.ntmps48
    go_wp2
    go_ret
    exact ⟨⟨_, rfl, .inr ⟨rfl, by omega⟩⟩, (Below.refl _ _).alloc (Nat.le_refl _) _⟩
end Go.Proofs.Ytgooodacneknkaa
