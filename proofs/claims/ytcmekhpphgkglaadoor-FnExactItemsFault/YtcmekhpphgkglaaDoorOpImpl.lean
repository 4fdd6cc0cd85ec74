/-
  What impl's small functions about ops answer.
-/
import Derived.Test.YtcmekhpphgkglaaDoorOpSpec2
import Derived.Test.YtcmekhpphgkglaaDoorImplPathNamesWalk
import Derived.Test.YtcmekhpphgkglaaDoorEqB
import Derived.Test.YtcmekhpphgkglaaDoorWideBox
namespace Go.Proofs.YtcmekhpphgkglaaDoor
open Go.RowKit
set_option linter.unusedVariables false

def topI (k : Int) : Int := if k = 2 then 3 else if k = 3 then 4 else 0
theorem topIndex_any (k : Int) (w : World) :
    Calls Tryd.prog 71 #[.int .i64 k] w fun e w' => e = .returned (.int .i64 (topI k)) ∧ w' = w := by
  by_cases h2 : k = 2
  · subst h2
    go_enter Tryd.func71, Tryd.ntmps71
    go_wp2_with fail
    go_ret
    exact ⟨rfl, rfl⟩
  by_cases h3 : k = 3
  · subst h3
    go_enter Tryd.func71, Tryd.ntmps71
    go_wp2_with fail
    go_ret
    exact ⟨rfl, rfl⟩
  have HV : Hid (topI k = 0) := by rw [Hid, topI, if_neg h2, if_neg h3]
  have h2b : (k == 2) = false := by simpa using h2
  have h3b : (k == 3) = false := by simpa using h3
  clear h2 h3
  go_enter Tryd.func71, Tryd.ntmps71
  go_wp2_with fail
  go_ret
  exact ⟨ret_int (unhide HV).symm, rfl⟩
set_option maxRecDepth 20000 in
set_option maxHeartbeats 4000000 in
theorem sameOp_any (k i i2 : Int) (p t p2 t2 : ByteArray) (d d2 : Bool) (l l2 : List Int) (a b : Option Addr) (c e : Nat) (w : World) (h : IntsAt w a l) (h2 : IntsAt w b l2) (hn : l.length ≤ 1048576) :
    Calls Tryd.prog 67 #[.agg #[.int .i64 k, .string p, .string t, .bool d, .int .i64 i, .slice a l.length c], .agg #[.int .i64 k, .string p2, .string t2, .bool d2, .int .i64 i2, .slice b l2.length e]] w fun r w' => r = .returned (.bool ((p.toList == p2.toList) && ((t.toList == t2.toList) && ((d == d2) && ((i == i2) && decide (l = l2)))))) ∧ Below w.heap.size w w' := by
  obtain ⟨W, hW, hWz, HB0, HX0, HY0⟩ := boxes2 w [.int .i64 k, .string p, .string t, .bool d, .int .i64 i, .slice a l.length c] [.int .i64 k, .string p2, .string t2, .bool d2, .int .i64 i2, .slice b l2.length e] 61 61
  have H := hide (h.below (unhide HB0))
  have H2 := hide (h2.below (unhide HB0))
  clear h h2
  have hkk : (k == k) = true := by simp
  cases hpp : (p.toList == p2.toList)
  · go_enter Tryd.func67, Tryd.ntmps67
    go_wp2_with fail
    go_ret
    exact ⟨rfl, by rw [← hW]; exact unhide HB0⟩
  cases htt : (t.toList == t2.toList)
  · go_enter Tryd.func67, Tryd.ntmps67
    go_wp2_with fail
    go_ret
    exact ⟨rfl, by rw [← hW]; exact unhide HB0⟩
  cases hdd : (d == d2)
  · go_enter Tryd.func67, Tryd.ntmps67
    go_wp2_with fail
    go_ret
    exact ⟨rfl, by rw [← hW]; exact unhide HB0⟩
  cases hii : (i == i2)
  · go_enter Tryd.func67, Tryd.ntmps67
    go_wp2_with fail
    go_ret
    exact ⟨rfl, by rw [← hW]; exact unhide HB0⟩
  go_enter Tryd.func67, Tryd.ntmps67
  go_wp2_with fail
  rw [← hW]
  clear hW
  refine (eqInts_any a b c e l l2 _ (unhide H) (unhide H2) hn).mono ?_
  rintro r w3 ⟨rfl, hb3⟩
  have B3 := hide (below_step (unhide HB0) hb3 (by omega))
  clear hb3
  go_wp2_with fail
  go_ret
  exact ⟨ret_bool (by simp), unhide B3⟩

def nP (k : Int) (p : ByteArray) : ByteArray := if k = 8 then ⟨#[]⟩ else p
def nT (k : Int) (t : ByteArray) : ByteArray := if k = 5 then t else ⟨#[]⟩
def nD (k : Int) (d : Bool) : Bool := if k = 1 then d else false
def nI (k i : Int) : Int := if k = 2 then i else if k = 3 then i else 0
def nN (k : Int) (l : List Int) : List Int := if k = 2 then l else []
theorem form_is {k : Int} {p t : ByteArray} {d : Bool} {i : Int} {nl : List Int} (h : inB k 1 8 = true) : ((p.toList == (nP k p).toList) && ((t.toList == (nT k t).toList) && ((d == nD k d) && ((i == nI k i) && decide (nl = nN k nl))))) = opForm k p t d i nl := by
  have hl : decide (nl = []) = ((nl.length : Int) == 0) := by cases nl <;> simp; omega
  have hp := noB_eq p
  have ht := noB_eq t
  rcases kinds h with rfl | rfl | rfl | rfl | rfl | rfl | rfl | rfl
  all_goals
    rw [opForm, h]
    simp only [nP, nT, nD, nI, nN]
    simp only [reduceIte, Int.reduceEq, hp, ht, hl, beq_self_eq_true, decide_true, Int.reduceBEq]
    generalize noB p = xp
    generalize noB t = xt
    generalize ((nl.length : Int) == 0) = xn
    generalize (i == 0) = xi
    revert xp xt xn xi d
    decide
set_option maxRecDepth 20000 in
set_option maxHeartbeats 2000000 in
theorem needed1 (p t : ByteArray) (d : Bool) (i : Int) (nl : List Int) (a : Option Addr) (c : Nat) (w : World) (h : IntsAt w a nl) :
    Calls Tryd.prog 69 #[.agg #[.int .i64 1, .string p, .string t, .bool d, .int .i64 i, .slice a nl.length c]] w fun r w' => (∃ b e, r = .returned (.agg #[.int .i64 1, .string (nP 1 p), .string (nT 1 t), .bool (nD 1 d), .int .i64 (nI 1 i), .slice b (nN 1 nl).length e]) ∧ IntsAt w' b (nN 1 nl)) ∧ Below w.heap.size w w' := by
  obtain ⟨W, hW, hWz, HB0, HP0, HX0, HY0⟩ := boxes3 w [.int .i64 1, .string p, .string t, .bool d, .int .i64 i, .slice a nl.length c] [.int .i64 1, .string p, .string ⟨#[]⟩, .bool d, .int .i64 0, .slice none 0 0] [.int .i64 1, .string p, .string ⟨#[]⟩, .bool d, .int .i64 0, .slice none 0 0] 61 61 61
  have H := hide (h.below (unhide HB0))
  clear h
  go_enter Tryd.func69, Tryd.ntmps69
  go_wp2_with fail
  rw [← hW]
  clear hW
  exact bodyPost_ret (results_cell_row Tryd.results69 _ W (w.heap.size + 1) 61 _ (0, 0) _ rfl (unhide HX0) Tryd.underlying61 rfl (by kernel_rfl)) rfl ⟨⟨none, 0, rfl, .inl rfl⟩, unhide HB0⟩
set_option maxRecDepth 20000 in
set_option maxHeartbeats 2000000 in
theorem needed2 (p t : ByteArray) (d : Bool) (i : Int) (nl : List Int) (a : Option Addr) (c : Nat) (w : World) (h : IntsAt w a nl) :
    Calls Tryd.prog 69 #[.agg #[.int .i64 2, .string p, .string t, .bool d, .int .i64 i, .slice a nl.length c]] w fun r w' => (∃ b e, r = .returned (.agg #[.int .i64 2, .string (nP 2 p), .string (nT 2 t), .bool (nD 2 d), .int .i64 (nI 2 i), .slice b (nN 2 nl).length e]) ∧ IntsAt w' b (nN 2 nl)) ∧ Below w.heap.size w w' := by
  obtain ⟨W, hW, hWz, HB0, HP0, HX0, HY0⟩ := boxes3 w [.int .i64 2, .string p, .string t, .bool d, .int .i64 i, .slice a nl.length c] [.int .i64 2, .string p, .string ⟨#[]⟩, .bool false, .int .i64 i, .slice a nl.length c] [.int .i64 2, .string p, .string ⟨#[]⟩, .bool false, .int .i64 i, .slice a nl.length c] 61 61 61
  have H := hide (h.below (unhide HB0))
  clear h
  go_enter Tryd.func69, Tryd.ntmps69
  go_wp2_with fail
  rw [← hW]
  clear hW
  exact bodyPost_ret (results_cell_row Tryd.results69 _ W (w.heap.size + 1) 61 _ (0, 0) _ rfl (unhide HX0) Tryd.underlying61 rfl (by kernel_rfl)) rfl ⟨⟨a, c, rfl, unhide H⟩, unhide HB0⟩
set_option maxRecDepth 20000 in
set_option maxHeartbeats 2000000 in
theorem needed3 (p t : ByteArray) (d : Bool) (i : Int) (nl : List Int) (a : Option Addr) (c : Nat) (w : World) (h : IntsAt w a nl) :
    Calls Tryd.prog 69 #[.agg #[.int .i64 3, .string p, .string t, .bool d, .int .i64 i, .slice a nl.length c]] w fun r w' => (∃ b e, r = .returned (.agg #[.int .i64 3, .string (nP 3 p), .string (nT 3 t), .bool (nD 3 d), .int .i64 (nI 3 i), .slice b (nN 3 nl).length e]) ∧ IntsAt w' b (nN 3 nl)) ∧ Below w.heap.size w w' := by
  obtain ⟨W, hW, hWz, HB0, HP0, HX0, HY0⟩ := boxes3 w [.int .i64 3, .string p, .string t, .bool d, .int .i64 i, .slice a nl.length c] [.int .i64 3, .string p, .string ⟨#[]⟩, .bool false, .int .i64 i, .slice none 0 0] [.int .i64 3, .string p, .string ⟨#[]⟩, .bool false, .int .i64 i, .slice none 0 0] 61 61 61
  have H := hide (h.below (unhide HB0))
  clear h
  go_enter Tryd.func69, Tryd.ntmps69
  go_wp2_with fail
  rw [← hW]
  clear hW
  exact bodyPost_ret (results_cell_row Tryd.results69 _ W (w.heap.size + 1) 61 _ (0, 0) _ rfl (unhide HX0) Tryd.underlying61 rfl (by kernel_rfl)) rfl ⟨⟨none, 0, rfl, .inl rfl⟩, unhide HB0⟩
set_option maxRecDepth 20000 in
set_option maxHeartbeats 2000000 in
theorem needed4 (p t : ByteArray) (d : Bool) (i : Int) (nl : List Int) (a : Option Addr) (c : Nat) (w : World) (h : IntsAt w a nl) :
    Calls Tryd.prog 69 #[.agg #[.int .i64 4, .string p, .string t, .bool d, .int .i64 i, .slice a nl.length c]] w fun r w' => (∃ b e, r = .returned (.agg #[.int .i64 4, .string (nP 4 p), .string (nT 4 t), .bool (nD 4 d), .int .i64 (nI 4 i), .slice b (nN 4 nl).length e]) ∧ IntsAt w' b (nN 4 nl)) ∧ Below w.heap.size w w' := by
  obtain ⟨W, hW, hWz, HB0, HP0, HX0, HY0⟩ := boxes3 w [.int .i64 4, .string p, .string t, .bool d, .int .i64 i, .slice a nl.length c] [.int .i64 4, .string p, .string ⟨#[]⟩, .bool false, .int .i64 0, .slice none 0 0] [.int .i64 4, .string p, .string ⟨#[]⟩, .bool false, .int .i64 0, .slice none 0 0] 61 61 61
  have H := hide (h.below (unhide HB0))
  clear h
  go_enter Tryd.func69, Tryd.ntmps69
  go_wp2_with fail
  rw [← hW]
  clear hW
  exact bodyPost_ret (results_cell_row Tryd.results69 _ W (w.heap.size + 1) 61 _ (0, 0) _ rfl (unhide HX0) Tryd.underlying61 rfl (by kernel_rfl)) rfl ⟨⟨none, 0, rfl, .inl rfl⟩, unhide HB0⟩
set_option maxRecDepth 20000 in
set_option maxHeartbeats 2000000 in
theorem needed5 (p t : ByteArray) (d : Bool) (i : Int) (nl : List Int) (a : Option Addr) (c : Nat) (w : World) (h : IntsAt w a nl) :
    Calls Tryd.prog 69 #[.agg #[.int .i64 5, .string p, .string t, .bool d, .int .i64 i, .slice a nl.length c]] w fun r w' => (∃ b e, r = .returned (.agg #[.int .i64 5, .string (nP 5 p), .string (nT 5 t), .bool (nD 5 d), .int .i64 (nI 5 i), .slice b (nN 5 nl).length e]) ∧ IntsAt w' b (nN 5 nl)) ∧ Below w.heap.size w w' := by
  obtain ⟨W, hW, hWz, HB0, HP0, HX0, HY0⟩ := boxes3 w [.int .i64 5, .string p, .string t, .bool d, .int .i64 i, .slice a nl.length c] [.int .i64 5, .string p, .string t, .bool false, .int .i64 0, .slice none 0 0] [.int .i64 5, .string p, .string t, .bool false, .int .i64 0, .slice none 0 0] 61 61 61
  have H := hide (h.below (unhide HB0))
  clear h
  go_enter Tryd.func69, Tryd.ntmps69
  go_wp2_with fail
  rw [← hW]
  clear hW
  exact bodyPost_ret (results_cell_row Tryd.results69 _ W (w.heap.size + 1) 61 _ (0, 0) _ rfl (unhide HX0) Tryd.underlying61 rfl (by kernel_rfl)) rfl ⟨⟨none, 0, rfl, .inl rfl⟩, unhide HB0⟩
set_option maxRecDepth 20000 in
set_option maxHeartbeats 2000000 in
theorem needed6 (p t : ByteArray) (d : Bool) (i : Int) (nl : List Int) (a : Option Addr) (c : Nat) (w : World) (h : IntsAt w a nl) :
    Calls Tryd.prog 69 #[.agg #[.int .i64 6, .string p, .string t, .bool d, .int .i64 i, .slice a nl.length c]] w fun r w' => (∃ b e, r = .returned (.agg #[.int .i64 6, .string (nP 6 p), .string (nT 6 t), .bool (nD 6 d), .int .i64 (nI 6 i), .slice b (nN 6 nl).length e]) ∧ IntsAt w' b (nN 6 nl)) ∧ Below w.heap.size w w' := by
  obtain ⟨W, hW, hWz, HB0, HP0, HX0, HY0⟩ := boxes3 w [.int .i64 6, .string p, .string t, .bool d, .int .i64 i, .slice a nl.length c] [.int .i64 6, .string p, .string ⟨#[]⟩, .bool false, .int .i64 0, .slice none 0 0] [.int .i64 6, .string p, .string ⟨#[]⟩, .bool false, .int .i64 0, .slice none 0 0] 61 61 61
  have H := hide (h.below (unhide HB0))
  clear h
  go_enter Tryd.func69, Tryd.ntmps69
  go_wp2_with fail
  rw [← hW]
  clear hW
  exact bodyPost_ret (results_cell_row Tryd.results69 _ W (w.heap.size + 1) 61 _ (0, 0) _ rfl (unhide HX0) Tryd.underlying61 rfl (by kernel_rfl)) rfl ⟨⟨none, 0, rfl, .inl rfl⟩, unhide HB0⟩
set_option maxRecDepth 20000 in
set_option maxHeartbeats 2000000 in
theorem needed7 (p t : ByteArray) (d : Bool) (i : Int) (nl : List Int) (a : Option Addr) (c : Nat) (w : World) (h : IntsAt w a nl) :
    Calls Tryd.prog 69 #[.agg #[.int .i64 7, .string p, .string t, .bool d, .int .i64 i, .slice a nl.length c]] w fun r w' => (∃ b e, r = .returned (.agg #[.int .i64 7, .string (nP 7 p), .string (nT 7 t), .bool (nD 7 d), .int .i64 (nI 7 i), .slice b (nN 7 nl).length e]) ∧ IntsAt w' b (nN 7 nl)) ∧ Below w.heap.size w w' := by
  obtain ⟨W, hW, hWz, HB0, HP0, HX0, HY0⟩ := boxes3 w [.int .i64 7, .string p, .string t, .bool d, .int .i64 i, .slice a nl.length c] [.int .i64 7, .string p, .string ⟨#[]⟩, .bool false, .int .i64 0, .slice none 0 0] [.int .i64 7, .string p, .string ⟨#[]⟩, .bool false, .int .i64 0, .slice none 0 0] 61 61 61
  have H := hide (h.below (unhide HB0))
  clear h
  go_enter Tryd.func69, Tryd.ntmps69
  go_wp2_with fail
  rw [← hW]
  clear hW
  exact bodyPost_ret (results_cell_row Tryd.results69 _ W (w.heap.size + 1) 61 _ (0, 0) _ rfl (unhide HX0) Tryd.underlying61 rfl (by kernel_rfl)) rfl ⟨⟨none, 0, rfl, .inl rfl⟩, unhide HB0⟩
set_option maxRecDepth 20000 in
set_option maxHeartbeats 2000000 in
theorem needed8 (p t : ByteArray) (d : Bool) (i : Int) (nl : List Int) (a : Option Addr) (c : Nat) (w : World) (h : IntsAt w a nl) :
    Calls Tryd.prog 69 #[.agg #[.int .i64 8, .string p, .string t, .bool d, .int .i64 i, .slice a nl.length c]] w fun r w' => (∃ b e, r = .returned (.agg #[.int .i64 8, .string (nP 8 p), .string (nT 8 t), .bool (nD 8 d), .int .i64 (nI 8 i), .slice b (nN 8 nl).length e]) ∧ IntsAt w' b (nN 8 nl)) ∧ Below w.heap.size w w' := by
  obtain ⟨W, hW, hWz, HB0, HP0, HX0, HY0⟩ := boxes3 w [.int .i64 8, .string p, .string t, .bool d, .int .i64 i, .slice a nl.length c] [.int .i64 8, .string ⟨#[]⟩, .string ⟨#[]⟩, .bool false, .int .i64 0, .slice none 0 0] [.int .i64 8, .string ⟨#[]⟩, .string ⟨#[]⟩, .bool false, .int .i64 0, .slice none 0 0] 61 61 61
  have H := hide (h.below (unhide HB0))
  clear h
  go_enter Tryd.func69, Tryd.ntmps69
  go_wp2_with fail
  rw [← hW]
  clear hW
  exact bodyPost_ret (results_cell_row Tryd.results69 _ W (w.heap.size + 1) 61 _ (0, 0) _ rfl (unhide HX0) Tryd.underlying61 rfl (by kernel_rfl)) rfl ⟨⟨none, 0, rfl, .inl rfl⟩, unhide HB0⟩
theorem neededOf_any (k : Int) (p t : ByteArray) (d : Bool) (i : Int) (nl : List Int) (a : Option Addr) (c : Nat) (w : World) (h : IntsAt w a nl) (hk : inB k 1 8 = true) :
    Calls Tryd.prog 69 #[.agg #[.int .i64 k, .string p, .string t, .bool d, .int .i64 i, .slice a nl.length c]] w fun r w' => (∃ b e, r = .returned (.agg #[.int .i64 k, .string (nP k p), .string (nT k t), .bool (nD k d), .int .i64 (nI k i), .slice b (nN k nl).length e]) ∧ IntsAt w' b (nN k nl)) ∧ Below w.heap.size w w' := by
  rcases kinds hk with rfl | rfl | rfl | rfl | rfl | rfl | rfl | rfl
  · exact needed1 p t d i nl a c w h
  · exact needed2 p t d i nl a c w h
  · exact needed3 p t d i nl a c w h
  · exact needed4 p t d i nl a c w h
  · exact needed5 p t d i nl a c w h
  · exact needed6 p t d i nl a c w h
  · exact needed7 p t d i nl a c w h
  · exact needed8 p t d i nl a c w h
end Go.Proofs.YtcmekhpphgkglaaDoor
