/-
  What the laws' own looks and marks of an answer of acts do.
-/
import Derived.Test.YtdijmijipgnlgaaFormatWalk
namespace Go.Proofs.Ytdijmijipgnlgaa
open Go.RowKit
set_option linter.unusedVariables false

set_option maxHeartbeats 1000000 in
theorem eqActsResult_same (cd : Int) (a b : Option Addr) (c d : Nat) (l : List Trip) (w : World) (h : TripsAt w a l) (h2 : TripsAt w b l) (hn : l.length ≤ 1048576) :
    Calls Try.prog 64 #[.agg #[.int .i64 cd, .slice a l.length c], .agg #[.int .i64 cd, .slice b l.length d]] w fun e w' => e = .returned (.bool true) ∧ Below w.heap.size w w' := by
  have hne := int_neq_self cd
  have H := hide h
  have H2 := hide h2
  clear h h2
  go_enter Try.func64, Try.ntmps64
  go_wp2_with fail
  obtain ⟨W, hW, z1, hb, hx, hy⟩ := boxes2 w [.int .i64 cd, .slice a l.length c] [.int .i64 cd, .slice b l.length d] 88 88
  rw [← hW]
  clear hW
  refine (eqActS_same a b c d l _ ((unhide H).below (unhide hb)) ((unhide H2).below (unhide hb)) hn).mono ?_
  rintro e w2 ⟨rfl, hb2⟩
  have B2 := hide (below_step (unhide hb) hb2 (by omega))
  clear hb2 hx hy hb
  go_wp2_with fail
  go_ret
  exact ⟨rfl, unhide B2⟩
set_option maxHeartbeats 1000000 in
theorem markActsResult_any (cd : Int) (v : Value) (n base : Nat) (xs : List Value) (m : Int) (w : World) (how : w.ownsRow base 138 3 v n xs) (hn : n ≤ 1048576) (h0 : 1 ≤ m) (h1 : m ≤ 10000000) :
    Calls Try.prog 65 #[.agg #[.int .i64 cd, v], .int .i64 m] w fun e w' => e = .returned (.int .i64 (m + 3 * n)) ∧ w'.ownsRow base 138 3 v n (trs (tripsFrom m n)) ∧ Out (fun q => v.ownBlock = some q) w w' := by
  obtain ⟨a, c, e0, -⟩ := rowAt_own how
  subst e0
  have H := hide how
  have HL := hide (fun q hq => how.lt q hq)
  clear how
  go_enter Try.func65, Try.ntmps65
  go_wp2_with fail
  obtain ⟨W, hW, z1, hb, hx⟩ := boxes1 w [.int .i64 cd, .slice a n c] 88
  rw [← hW]
  clear hW
  refine (markActS_any _ n base xs m _ (own_below (unhide H) (unhide hb)) hn h0 h1).mono ?_
  rintro e w2 ⟨rfl, hO, ho⟩
  have O2 := hide hO
  have U2 := hide ((Out.ofBelow (F := fun q => (Value.slice a n c).ownBlock = some q) (unhide hb)).trans ho (fun _ _ h => h))
  clear hO ho hb hx
  go_wp2_with fail
  go_ret
  exact ⟨rfl, unhide O2, unhide U2⟩
set_option maxHeartbeats 1000000 in
theorem heldActsResult_any (cd : Int) (a : Option Addr) (c n : Nat) (m : Int) (w : World) (h : TripsAt w a (tripsFrom m n)) (hn : n ≤ 1048576) (h0 : 1 ≤ m) (h1 : m ≤ 10000000) :
    Calls Try.prog 66 #[.agg #[.int .i64 cd, .slice a n c], .int .i64 m] w fun e w' => e = .returned (.int .i64 (m + 3 * n)) ∧ Below w.heap.size w w' := by
  have H := hide h
  have hk : ¬ (m + 3 * (n : Int) < 0) := by omega
  clear h
  go_enter Try.func66, Try.ntmps66
  go_wp2_with fail
  obtain ⟨W, hW, z1, hb, hx⟩ := boxes1 w [.int .i64 cd, .slice a n c] 88
  rw [← hW]
  clear hW
  refine (heldActS_any a c n m _ ((unhide H).below (unhide hb)) hn h0 h1).mono ?_
  rintro e w2 ⟨rfl, rfl⟩
  clear hx
  go_wp2_with fail
  go_ret
  exact ⟨rfl, unhide hb⟩
end Go.Proofs.Ytdijmijipgnlgaa
