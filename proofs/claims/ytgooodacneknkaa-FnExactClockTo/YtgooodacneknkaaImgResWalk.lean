/-
  The laws' own comparisons and marks of answers of images.
-/
import Derived.Test.YtgooodacneknkaaResWalk
namespace Go.Proofs.Ytgooodacneknkaa
open Go.RowKit
set_option linter.unusedVariables false

set_option maxHeartbeats 1000000 in
theorem eqImageResult_same (x : Int) (a b : Option Addr) (c d : Nat) (l : List Int) (w : World) (h : IntsAt w a l) (h' : IntsAt w b l) (hn : l.length ≤ 1048576) :
    Calls Try.prog 14 #[.agg #[.int .i64 x, .slice a l.length c], .agg #[.int .i64 x, .slice b l.length d]] w fun e w' => e = .returned (.bool true) ∧ Below w.heap.size w w' := by
  have H := hide h
  have H' := hide h'
  have hx := int_neq_self x
  clear h h'
  go_enter Try.func14, Try.ntmps14
  go_wp2_with fail
  obtain ⟨W, hW, z1, bl, -, -⟩ := boxes2 w [.int .i64 x, .slice a l.length c] [.int .i64 x, .slice b l.length d] 30 30
  rw [← hW]
  clear hW
  refine (eqInt64S_same a b c d l _ ((unhide H).below (unhide bl)) ((unhide H').below (unhide bl)) hn).mono ?_
  rintro e w2 ⟨rfl, hb2⟩
  have B2 := hide (below_step (unhide bl) hb2 (by omega))
  clear hb2
  go_wp2_with fail
  go_ret
  exact ⟨rfl, unhide B2⟩
set_option maxHeartbeats 1000000 in
theorem markImageResult_any (y : Int) (a : Option Addr) (c n base : Nat) (xs : List Value) (m : Int) (w : World) (h : w.ownsRow base 2 1 (.slice a n c) n xs) (hn : n ≤ 1048576) (h0 : 1 ≤ m) (h1 : m ≤ 10) :
    Calls Try.prog 17 #[.agg #[.int .i64 y, .slice a n c], .int .i64 m] w fun e w' => e = .returned (.int .i64 (m + n)) ∧ w'.ownsRow base 2 1 (.slice a n c) n (nums (numsFrom m n)) ∧ Out (fun q => (Value.slice a n c).ownBlock = some q) w w' := by
  have H := hide h
  clear h
  go_enter Try.func17, Try.ntmps17
  go_wp2_with fail
  obtain ⟨W, hW, z1, b, -⟩ := boxes1 w [.int .i64 y, .slice a n c] 30
  rw [← hW]
  clear hW
  have H1 := hide (own_below (unhide H) (unhide b))
  refine (markInt64S_any _ n base xs m _ (unhide H1) hn h0 (by omega)).mono ?_
  rintro e w2 ⟨rfl, p2, o2⟩
  have P2 := hide p2
  have U2 := hide ((Out.ofBelow (F := fun q => (Value.slice a n c).ownBlock = some q) (unhide b)).trans o2 (fun q _ h => h))
  clear p2 o2
  go_wp2_with fail
  go_ret
  exact ⟨rfl, unhide P2, unhide U2⟩
set_option maxHeartbeats 1000000 in
theorem heldImageResult_any (y : Int) (a : Option Addr) (c n : Nat) (m : Int) (w : World) (h : IntsAt w a (numsFrom m n)) (hn : n ≤ 1048576) (h0 : 1 ≤ m) (h1 : m ≤ 10) :
    Calls Try.prog 18 #[.agg #[.int .i64 y, .slice a n c], .int .i64 m] w fun e w' => e = .returned (.int .i64 (m + n)) ∧ Below w.heap.size w w' := by
  have H := hide h
  have k3 : ¬ m + (n : Int) < 0 := by omega
  clear h
  go_enter Try.func18, Try.ntmps18
  go_wp2_with fail
  obtain ⟨W, hW, z1, b, -⟩ := boxes1 w [.int .i64 y, .slice a n c] 30
  rw [← hW]
  clear hW
  refine (heldInt64S_any a c n m _ ((unhide H).below (unhide b)) hn h0 (by omega)).mono ?_
  rintro e w2 ⟨rfl, rfl⟩
  go_wp2_with fail
  go_ret
  exact ⟨rfl, unhide b⟩
end Go.Proofs.Ytgooodacneknkaa
