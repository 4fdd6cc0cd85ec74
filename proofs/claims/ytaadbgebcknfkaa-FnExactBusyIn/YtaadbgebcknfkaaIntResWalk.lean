/-
  What the laws' own looks and marks of an answer of numbers do.
-/
import Derived.Test.YtaadbgebcknfkaaDevEq
import Derived.Test.YtaadbgebcknfkaaDevMark
import Derived.Test.YtaadbgebcknfkaaAppRow
namespace Go.Proofs.Ytaadbgebcknfkaa
open Go.RowKit
set_option linter.unusedVariables false

set_option maxHeartbeats 1000000 in
theorem eqIntsResult_same (cd : Int) (a b : Option Addr) (c d : Nat) (l : List Int) (w : World) (h : IntsAt w a l) (h2 : IntsAt w b l) (hn : l.length ≤ 1048576) :
    Calls Try.prog 25 #[.agg #[.int .i64 cd, .slice a l.length c], .agg #[.int .i64 cd, .slice b l.length d]] w fun e w' => e = .returned (.bool true) ∧ Below w.heap.size w w' := by
  have hne := int_neq_self cd
  have H := hide h
  have H2 := hide h2
  clear h h2
  go_enter Try.func25, Try.ntmps25
  go_wp2_with fail
  obtain ⟨W, hW, z1, hb, hx, hy⟩ := boxes2 w [.int .i64 cd, .slice a l.length c] [.int .i64 cd, .slice b l.length d] 62 62
  rw [← hW]
  clear hW
  refine (eqInt64S_same a b c d l _ ((unhide H).below (unhide hb)) ((unhide H2).below (unhide hb)) hn).mono ?_
  rintro e w2 ⟨rfl, hb2⟩
  have B2 := hide (below_step (unhide hb) hb2 (by omega))
  clear hb2 hx hy hb
  go_wp2_with fail
  go_ret
  exact ⟨rfl, unhide B2⟩
set_option maxHeartbeats 1000000 in
theorem markIntsResult_any (cd : Int) (v : Value) (n base : Nat) (xs : List Value) (m : Int) (w : World) (how : w.ownsRow base 2 1 v n xs) (hn : n ≤ 1048576) (h0 : 1 ≤ m) (h1 : m ≤ 10000000) :
    Calls Try.prog 28 #[.agg #[.int .i64 cd, v], .int .i64 m] w fun e w' => e = .returned (.int .i64 (m + n)) ∧ w'.ownsRow base 2 1 v n (nums (numsFrom m n)) ∧ Out (fun q => v.ownBlock = some q) w w' := by
  obtain ⟨a, c, e0, -⟩ := rowAt_own how
  subst e0
  have H := hide how
  clear how
  go_enter Try.func28, Try.ntmps28
  go_wp2_with fail
  obtain ⟨W, hW, z1, hb, hx⟩ := boxes1 w [.int .i64 cd, .slice a n c] 62
  rw [← hW]
  clear hW
  refine (markInt64S_any _ n base xs m _ (own_below (unhide H) (unhide hb)) hn h0 h1).mono ?_
  rintro e w2 ⟨rfl, hO, ho⟩
  have O2 := hide hO
  have U2 := hide ((Out.ofBelow (F := fun q => (Value.slice a n c).ownBlock = some q) (unhide hb)).trans ho (fun _ _ h => h))
  clear hO ho hb hx
  go_wp2_with fail
  go_ret
  exact ⟨rfl, unhide O2, unhide U2⟩
set_option maxHeartbeats 1000000 in
theorem heldIntsResult_any (cd : Int) (a : Option Addr) (c n : Nat) (m : Int) (w : World) (h : IntsAt w a (numsFrom m n)) (hn : n ≤ 1048576) (h0 : 1 ≤ m) (h1 : m ≤ 10000000) :
    Calls Try.prog 29 #[.agg #[.int .i64 cd, .slice a n c], .int .i64 m] w fun e w' => e = .returned (.int .i64 (m + n)) ∧ Below w.heap.size w w' := by
  have H := hide h
  have hk : ¬ (m + (n : Int) < 0) := by omega
  clear h
  go_enter Try.func29, Try.ntmps29
  go_wp2_with fail
  obtain ⟨W, hW, z1, hb, hx⟩ := boxes1 w [.int .i64 cd, .slice a n c] 62
  rw [← hW]
  clear hW
  refine (heldInt64S_any a c n m _ ((unhide H).below (unhide hb)) hn h0 h1).mono ?_
  rintro e w2 ⟨rfl, rfl⟩
  clear hx
  go_wp2_with fail
  go_ret
  exact ⟨rfl, unhide hb⟩
end Go.Proofs.Ytaadbgebcknfkaa
