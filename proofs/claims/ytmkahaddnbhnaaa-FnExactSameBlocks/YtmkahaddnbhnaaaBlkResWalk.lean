/-
  What the laws' own looks at blocks in an answer tell.
-/
import Derived.Test.YtmkahaddnbhnaaaResWalk
import Derived.Test.YtmkahaddnbhnaaaReadMath
import Derived.Test.YtmkahaddnbhnaaaWideBox
namespace Go.Proofs.Ytmkahaddnbhnaaa
open Go.RowKit
set_option linter.unusedVariables false

set_option maxHeartbeats 2000000 in
theorem eqNode_same (u : Int) (d : Bool) (p : Int) (nm : ByteArray) (s : Int) (w : World) :
    Calls Try.prog 98 #[.agg #[.int .i64 u, .bool d, .int .i64 p, .string nm, .int .i64 s], .agg #[.int .i64 u, .bool d, .int .i64 p, .string nm, .int .i64 s]] w fun r w' => r = .returned (.bool true) ∧ Below w.heap.size w w' := by
  have h1 := int_neq_self u
  have h2 := bool_neq_self d
  have h3 := int_neq_self p
  have h4 := int_neq_self s
  go_enter Try.func98, Try.ntmps98
  go_wp2
  go_ret
  refine ⟨rfl, ?_⟩
  repeat (first | exact Below.refl _ _ | (with_reducible refine Below.alloc ?_ ?_ _; rotate_left; (first | omega | (simp <;> omega))))
set_option maxRecDepth 20000 in
set_option maxHeartbeats 4000000 in
theorem eqBlock_same (k u i e nu : Int) (nd : Bool) (np : Int) (nn : ByteArray) (ns : Int) (a b : Option Addr) (c d : Nat) (l : List Int) (w : World) (h : IntsAt w a l) (h2 : IntsAt w b l) (hn : l.length ≤ 1048576) :
    Calls Try.prog 77 #[.agg #[.int .i64 k, .int .i64 u, .int .i64 i, .int .i64 e, .int .i64 nu, .bool nd, .int .i64 np, .string nn, .int .i64 ns, .slice a l.length c], .agg #[.int .i64 k, .int .i64 u, .int .i64 i, .int .i64 e, .int .i64 nu, .bool nd, .int .i64 np, .string nn, .int .i64 ns, .slice b l.length d]] w fun r w' => r = .returned (.bool true) ∧ Below w.heap.size w w' := by
  obtain ⟨W, hW, hWz, HB0, HX0, HY0⟩ := boxes2 w [.int .i64 k, .int .i64 u, .int .i64 i, .int .i64 e, .int .i64 nu, .bool nd, .int .i64 np, .string nn, .int .i64 ns, .slice a l.length c] [.int .i64 k, .int .i64 u, .int .i64 i, .int .i64 e, .int .i64 nu, .bool nd, .int .i64 np, .string nn, .int .i64 ns, .slice b l.length d] 43 43
  have H := hide (h.below (unhide HB0))
  have H2 := hide (h2.below (unhide HB0))
  clear h h2
  go_enter Try.func77, Try.ntmps77
  go_wp2_with fail
  rw [← hW]
  clear hW
  refine (eqHead_same k u i e _).mono ?_
  rintro r w1 ⟨rfl, hb1⟩
  have HX1 := hide ((unhide HX0).below hb1)
  have HY1 := hide ((unhide HY0).below hb1)
  have H1 := hide ((unhide H).below hb1)
  have H21 := hide ((unhide H2).below hb1)
  have HB1 := hide (below_step (unhide HB0) hb1 (by omega))
  have z1 : w.heap.size + 1 < w1.heap.size := by have := hb1.size; omega
  clear hb1 HX0 HY0 H H2 HB0
  have x4 := (unhide HX1).cell 4
  have x5 := (unhide HX1).cell 5
  have x6 := (unhide HX1).cell 6
  have x7 := (unhide HX1).cell 7
  have x8 := (unhide HX1).cell 8
  simp only [List.getElem?_cons_zero, List.getElem?_cons_succ] at x4 x5 x6 x7 x8
  have y4 := (unhide HY1).cell 4
  have y5 := (unhide HY1).cell 5
  have y6 := (unhide HY1).cell 6
  have y7 := (unhide HY1).cell 7
  have y8 := (unhide HY1).cell 8
  simp only [List.getElem?_cons_zero, List.getElem?_cons_succ] at y4 y5 y6 y7 y8
  go_wp2_with fail
  refine (eqNode_same nu nd np nn ns _).mono ?_
  rintro r w2 ⟨rfl, hb2⟩
  have HX2 := hide ((unhide HX1).below hb2)
  have HY2 := hide ((unhide HY1).below hb2)
  have H2 := hide ((unhide H1).below hb2)
  have H22 := hide ((unhide H21).below hb2)
  have HB2 := hide (below_step (unhide HB1) hb2 (by omega))
  have z2 : w.heap.size + 1 < w2.heap.size := by have := hb2.size; omega
  clear hb2 HX1 HY1 H1 H21 HB1 x4 y4 x5 y5 x6 y6 x7 y7 x8 y8
  have x9 := (unhide HX2).cell 9
  have y9 := (unhide HY2).cell 9
  simp only [List.getElem?_cons_zero, List.getElem?_cons_succ] at x9 y9
  go_wp2_with fail
  refine (eqInt64S_same a b c d l _ (unhide H2) (unhide H22) hn).mono ?_
  rintro r w3 ⟨rfl, hb3⟩
  have HB3 := hide (below_step (unhide HB2) hb3 (by omega))
  clear hb3
  go_wp2_with fail
  go_ret
  exact ⟨rfl, unhide HB3⟩
set_option maxRecDepth 20000 in
set_option maxHeartbeats 4000000 in
theorem eqBlockResult_same (x : Int) (k u i e nu : Int) (nd : Bool) (np : Int) (nn : ByteArray) (ns : Int) (a b : Option Addr) (c d : Nat) (l : List Int) (w : World) (h : IntsAt w a l) (h2 : IntsAt w b l) (hn : l.length ≤ 1048576) :
    Calls Try.prog 41 #[.agg #[.int .i64 x, .int .i64 k, .int .i64 u, .int .i64 i, .int .i64 e, .int .i64 nu, .bool nd, .int .i64 np, .string nn, .int .i64 ns, .slice a l.length c], .agg #[.int .i64 x, .int .i64 k, .int .i64 u, .int .i64 i, .int .i64 e, .int .i64 nu, .bool nd, .int .i64 np, .string nn, .int .i64 ns, .slice b l.length d]] w fun r w' => r = .returned (.bool true) ∧ Below w.heap.size w w' := by
  obtain ⟨W, hW, hWz, HB0, HX0, HY0⟩ := boxes2 w [.int .i64 x, .int .i64 k, .int .i64 u, .int .i64 i, .int .i64 e, .int .i64 nu, .bool nd, .int .i64 np, .string nn, .int .i64 ns, .slice a l.length c] [.int .i64 x, .int .i64 k, .int .i64 u, .int .i64 i, .int .i64 e, .int .i64 nu, .bool nd, .int .i64 np, .string nn, .int .i64 ns, .slice b l.length d] 45 45
  have H := hide (h.below (unhide HB0))
  have H2 := hide (h2.below (unhide HB0))
  have hxx := int_neq_self x
  clear h h2
  go_enter Try.func41, Try.ntmps41
  go_wp2_with fail
  rw [← hW]
  clear hW
  refine (eqBlock_same k u i e nu nd np nn ns a b c d l _ (unhide H) (unhide H2) hn).mono ?_
  rintro r w1 ⟨rfl, hb1⟩
  have HB1 := hide (below_step (unhide HB0) hb1 (by omega))
  clear hb1
  go_wp2_with fail
  go_ret
  exact ⟨rfl, unhide HB1⟩
set_option maxRecDepth 20000 in
set_option maxHeartbeats 2000000 in
theorem markBlock_any (k u i e nu : Int) (nd : Bool) (np : Int) (nn : ByteArray) (ns : Int) (a : Option Addr) (c n base : Nat) (xs : List Value) (m : Int) (w : World) (h : w.ownsRow base 2 1 (.slice a n c) n xs) (hn : n ≤ 1048576) (h0 : 1 ≤ m) (h1 : m ≤ 10) :
    Calls Try.prog 78 #[.agg #[.int .i64 k, .int .i64 u, .int .i64 i, .int .i64 e, .int .i64 nu, .bool nd, .int .i64 np, .string nn, .int .i64 ns, .slice a n c], .int .i64 m] w fun r w' => r = .returned (.int .i64 (m + n)) ∧ w'.ownsRow base 2 1 (.slice a n c) n (nums (numsFrom m n)) ∧ Out (fun q => (Value.slice a n c).ownBlock = some q) w w' := by
  have H := hide h
  clear h
  go_enter Try.func78, Try.ntmps78
  go_wp2_with fail
  obtain ⟨W, hW, z1, b, -⟩ := boxes1 w [.int .i64 k, .int .i64 u, .int .i64 i, .int .i64 e, .int .i64 nu, .bool nd, .int .i64 np, .string nn, .int .i64 ns, .slice a n c] 43
  rw [← hW]
  clear hW
  have H1 := hide (own_below (unhide H) (unhide b))
  refine (markInt64S_any _ n base xs m _ (unhide H1) hn h0 (by omega)).mono ?_
  rintro r w2 ⟨rfl, p2, o2⟩
  have P2 := hide p2
  have U2 := hide ((Out.ofBelow (F := fun q => (Value.slice a n c).ownBlock = some q) (unhide b)).trans o2 (fun q _ h => h))
  clear p2 o2
  go_wp2_with fail
  go_ret
  exact ⟨rfl, unhide P2, unhide U2⟩
set_option maxRecDepth 20000 in
set_option maxHeartbeats 2000000 in
theorem heldBlock_any (k u i e nu : Int) (nd : Bool) (np : Int) (nn : ByteArray) (ns : Int) (a : Option Addr) (c n : Nat) (m : Int) (w : World) (h : IntsAt w a (numsFrom m n)) (hn : n ≤ 1048576) (h0 : 1 ≤ m) (h1 : m ≤ 10) :
    Calls Try.prog 79 #[.agg #[.int .i64 k, .int .i64 u, .int .i64 i, .int .i64 e, .int .i64 nu, .bool nd, .int .i64 np, .string nn, .int .i64 ns, .slice a n c], .int .i64 m] w fun r w' => r = .returned (.int .i64 (m + n)) ∧ Below w.heap.size w w' := by
  have H := hide h
  have k3 : ¬ m + (n : Int) < 0 := by omega
  clear h
  go_enter Try.func79, Try.ntmps79
  go_wp2_with fail
  obtain ⟨W, hW, z1, b, -⟩ := boxes1 w [.int .i64 k, .int .i64 u, .int .i64 i, .int .i64 e, .int .i64 nu, .bool nd, .int .i64 np, .string nn, .int .i64 ns, .slice a n c] 43
  rw [← hW]
  clear hW
  refine (heldInt64S_any a c n m _ ((unhide H).below (unhide b)) hn h0 (by omega)).mono ?_
  rintro r w2 ⟨rfl, rfl⟩
  go_wp2_with fail
  go_ret
  exact ⟨rfl, unhide b⟩
set_option maxRecDepth 20000 in
set_option maxHeartbeats 2000000 in
theorem markBlockResult_any (x : Int) (k u i e nu : Int) (nd : Bool) (np : Int) (nn : ByteArray) (ns : Int) (a : Option Addr) (c n base : Nat) (xs : List Value) (m : Int) (w : World) (h : w.ownsRow base 2 1 (.slice a n c) n xs) (hn : n ≤ 1048576) (h0 : 1 ≤ m) (h1 : m ≤ 10) :
    Calls Try.prog 42 #[.agg #[.int .i64 x, .int .i64 k, .int .i64 u, .int .i64 i, .int .i64 e, .int .i64 nu, .bool nd, .int .i64 np, .string nn, .int .i64 ns, .slice a n c], .int .i64 m] w fun r w' => r = .returned (.int .i64 (m + n)) ∧ w'.ownsRow base 2 1 (.slice a n c) n (nums (numsFrom m n)) ∧ Out (fun q => (Value.slice a n c).ownBlock = some q) w w' := by
  have H := hide h
  clear h
  go_enter Try.func42, Try.ntmps42
  go_wp2_with fail
  obtain ⟨W, hW, z1, b, -⟩ := boxes1 w [.int .i64 x, .int .i64 k, .int .i64 u, .int .i64 i, .int .i64 e, .int .i64 nu, .bool nd, .int .i64 np, .string nn, .int .i64 ns, .slice a n c] 45
  rw [← hW]
  clear hW
  have H1 := hide (own_below (unhide H) (unhide b))
  refine (markBlock_any k u i e nu nd np nn ns a c n base xs m _ (unhide H1) hn h0 (by omega)).mono ?_
  rintro r w2 ⟨rfl, p2, o2⟩
  have P2 := hide p2
  have U2 := hide ((Out.ofBelow (F := fun q => (Value.slice a n c).ownBlock = some q) (unhide b)).trans o2 (fun q _ h => h))
  clear p2 o2
  go_wp2_with fail
  go_ret
  exact ⟨rfl, unhide P2, unhide U2⟩
set_option maxRecDepth 20000 in
set_option maxHeartbeats 2000000 in
theorem heldBlockResult_any (x : Int) (k u i e nu : Int) (nd : Bool) (np : Int) (nn : ByteArray) (ns : Int) (a : Option Addr) (c n : Nat) (m : Int) (w : World) (h : IntsAt w a (numsFrom m n)) (hn : n ≤ 1048576) (h0 : 1 ≤ m) (h1 : m ≤ 10) :
    Calls Try.prog 43 #[.agg #[.int .i64 x, .int .i64 k, .int .i64 u, .int .i64 i, .int .i64 e, .int .i64 nu, .bool nd, .int .i64 np, .string nn, .int .i64 ns, .slice a n c], .int .i64 m] w fun r w' => r = .returned (.int .i64 (m + n)) ∧ Below w.heap.size w w' := by
  have H := hide h
  have k3 : ¬ m + (n : Int) < 0 := by omega
  clear h
  go_enter Try.func43, Try.ntmps43
  go_wp2_with fail
  obtain ⟨W, hW, z1, b, -⟩ := boxes1 w [.int .i64 x, .int .i64 k, .int .i64 u, .int .i64 i, .int .i64 e, .int .i64 nu, .bool nd, .int .i64 np, .string nn, .int .i64 ns, .slice a n c] 45
  rw [← hW]
  clear hW
  refine (heldBlock_any k u i e nu nd np nn ns a c n m _ ((unhide H).below (unhide b)) hn h0 (by omega)).mono ?_
  rintro r w2 ⟨rfl, hb2⟩
  have B2 := hide (below_step (unhide b) hb2 (by omega))
  clear hb2
  go_wp2_with fail
  go_ret
  exact ⟨rfl, unhide B2⟩
end Go.Proofs.Ytmkahaddnbhnaaa
