/-
  What the laws' own sizes, copies and comparisons of ops answer.
-/
import Derived.Test.YtcmekhpphgkglaaDoorRowMath
import Derived.Test.YtcmekhpphgkglaaDoorDevSz
import Derived.Test.YtcmekhpphgkglaaDoorDevEq
import Derived.Test.YtcmekhpphgkglaaDoorResWalk
import Derived.Test.YtcmekhpphgkglaaDoorWideBox
namespace Go.Proofs.YtcmekhpphgkglaaDoor
open Go.RowKit
set_option linter.unusedVariables false

set_option maxRecDepth 20000 in
set_option maxHeartbeats 2000000 in
theorem szOp_any (k : Int) (p t : ByteArray) (d : Bool) (i : Int) (n : Nat) (a : Option Addr) (c : Nat) (left : Int) (w : World) (h0 : 0 ≤ left) (h1 : left ≤ 1048576) (hp : p.size ≤ maxLen) (ht : t.size ≤ maxLen) (hn : n ≤ maxLen) :
    Calls Tryd.prog 40 #[.agg #[.int .i64 k, .string p, .string t, .bool d, .int .i64 i, .slice a n c], .int .i64 left] w fun r w' => (∃ x : Int, r = .returned (.int .i64 x) ∧ (x < 0 ∨ (0 ≤ x ∧ x ≤ left ∧ (p.size : Int) ≤ left ∧ (t.size : Int) ≤ left ∧ (n : Int) ≤ left))) ∧ Below w.heap.size w w' := by
  obtain ⟨W, hW, hWz, HB0, HP0⟩ := boxes1 w [.int .i64 k, .string p, .string t, .bool d, .int .i64 i, .slice a n c] 53
  unfold maxLen at hp ht
  by_cases hl : left - (p.size : Int) < 0
  · go_enter Tryd.func40, Tryd.ntmps40
    go_wp2_with fail
    go_ret
    exact ⟨⟨_, rfl, .inl (by decide)⟩, by rw [← hW]; exact unhide HB0⟩
  by_cases hl2 : left - (p.size : Int) - (t.size : Int) < 0
  · go_enter Tryd.func40, Tryd.ntmps40
    go_wp2_with fail
    go_ret
    exact ⟨⟨_, rfl, .inl (by decide)⟩, by rw [← hW]; exact unhide HB0⟩
  go_enter Tryd.func40, Tryd.ntmps40
  go_wp2_with fail
  rw [← hW]
  clear hW
  refine (szInt64S_any a n c (left - (p.size : Int) - (t.size : Int)) _ (by omega) (by omega) hn).mono ?_
  rintro r w2 ⟨⟨y, rfl, hy⟩, rfl⟩
  by_cases hy0 : y < 0
  · clear hy
    go_wp2_with fail
    go_ret
    exact ⟨⟨_, rfl, .inl (by decide)⟩, unhide HB0⟩
  have hy1 : 0 ≤ y ∧ y ≤ left ∧ (p.size : Int) ≤ left ∧ (t.size : Int) ≤ left ∧ (n : Int) ≤ left := by
    rcases hy with ⟨h, _⟩ | ⟨h, h'⟩
    · omega
    · omega
  have HY := hide hy1
  clear hy hy1
  go_wp2_with fail
  go_ret
  exact ⟨⟨_, rfl, .inr (unhide HY)⟩, unhide HB0⟩
set_option maxRecDepth 20000 in
set_option maxHeartbeats 2000000 in
theorem toOp_any (k : Int) (p t : ByteArray) (d : Bool) (i : Int) (nl : List Int) (a : Option Addr) (c : Nat) (w : World) (h : IntsAt w a nl) (hn : nl.length ≤ 1048576) :
    Calls Tryd.prog 46 #[.agg #[.int .i64 k, .string p, .string t, .bool d, .int .i64 i, .slice a nl.length c]] w fun r w' => (∃ g, r = .returned (.agg #[.int .i64 k, .string p, .string t, .bool d, .int .i64 i, .slice (some ⟨g, 0, none⟩) nl.length nl.length]) ∧ w'.ownsRow w.heap.size 2 1 (.slice (some ⟨g, 0, none⟩) nl.length nl.length) nl.length (nums nl)) ∧ Below w.heap.size w w' := by
  obtain ⟨W, hW, hWz, HB0, HP0, HX0, HY0⟩ := boxes3 w [.int .i64 k, .string p, .string t, .bool d, .int .i64 i, .slice a nl.length c] [.int .i64 0, .string ⟨#[]⟩, .string ⟨#[]⟩, .bool false, .int .i64 0, .slice none 0 0] [.int .i64 k, .string p, .string t, .bool d, .int .i64 i, .slice none 0 0] 53 61 61
  have H := hide (h.below (unhide HB0))
  clear h
  go_enter Tryd.func46, Tryd.ntmps46
  go_wp2_with fail
  rw [← hW]
  clear hW
  refine (toInt64S_ex a c nl _ (unhide H) hn).mono ?_
  rintro r w5 ⟨⟨g, rfl, ho⟩, hb5⟩
  have HX5 := hide ((unhide HX0).below hb5)
  have HY5 := hide ((unhide HY0).below hb5)
  have B5 := hide (below_step (unhide HB0) hb5 (by omega))
  have ON := hide ho
  have LN : Hid (w.heap.size + 1 + 1 < g) := by have := ho.lt g rfl; show _ < _; omega
  have z5 : w.heap.size + 1 + 1 < w5.heap.size := by have := hb5.size; omega
  clear hb5 ho HX0 HY0 HB0 H
  have t5 := (unhide HY5).cell 5
  have f5 := (unhide HY5).frozen 5
  simp only [List.getElem?_cons_zero, List.getElem?_cons_succ] at t5
  have HYV : Hid (Box (w5.setCell ⟨w.heap.size + 1 + 1, 5, none⟩ (.slice (some ⟨g, 0, none⟩) nl.length nl.length)) (w.heap.size + 1 + 1) [.int .i64 k, .string p, .string t, .bool d, .int .i64 i, .slice (some ⟨g, 0, none⟩) nl.length nl.length] 61) := (unhide HY5).set 5 _
  have HXV := hide ((unhide HX5).set_other (p := ⟨w.heap.size + 1 + 1, 5, none⟩) (by show w.heap.size + 1 ≠ w.heap.size + 1 + 1; omega) (.slice (some ⟨g, 0, none⟩) nl.length nl.length))
  have BV := hide ((unhide B5).setCell (p := ⟨w.heap.size + 1 + 1, 5, none⟩) (by show w.heap.size ≤ w.heap.size + 1 + 1; omega) (.slice (some ⟨g, 0, none⟩) nl.length nl.length))
  have OV : Hid (Out (fun q => q = w.heap.size + 1 + 1) w5 (w5.setCell ⟨w.heap.size + 1 + 1, 5, none⟩ (.slice (some ⟨g, 0, none⟩) nl.length nl.length))) := (Out.refl (fun q => q = w.heap.size + 1 + 1) w5).setCell (p := ⟨w.heap.size + 1 + 1, 5, none⟩) (.inl rfl) _
  have ONV := hide ((unhide OV).own (unhide ON) (fun q hq e => by have := unhide LN; cases hq; simp at e; omega))
  go_wp2_with (first
    | (refine wpList_load_part rfl 61 (.tmp 3) rfl (w.heap.size + 1 + 1) 0 rfl 61 _ [.int .i64 k, .string p, .string t, .bool d, .int .i64 i, .slice (some ⟨g, 0, none⟩) nl.length nl.length] (unhide HYV) rfl _ Tryd.underlying61 rfl (by kernel_rfl) ?_)
    | (refine wpList_store_part rfl 61 (.tmp 2) (.tmp 23) rfl (w.heap.size + 1) 0 _ rfl rfl 61 _ (unhide HXV) (by kernel_rfl) (by simp) (by simp [Value.oneCell']) ?_; intro wZ XZ OZ))
  have XR : Hid (Box wZ (w.heap.size + 1) [.int .i64 k, .string p, .string t, .bool d, .int .i64 i, .slice (some ⟨g, 0, none⟩) nl.length nl.length] 61) := XZ
  have BR : Hid (Below w.heap.size w wZ) := (unhide OZ).below (unhide BV) (Nat.le_refl _) (fun q hq e => by omega)
  have ONR := hide ((unhide OZ).own (unhide ONV) (fun q hq e => by have := unhide LN; cases hq; simp at e; omega))
  clear XZ OZ HXV HYV BV ONV OV ON t5 f5
  refine bodyPost_ret (results_cell_row Tryd.results46 _ wZ (w.heap.size + 1) 61 _ (0, 0) _ rfl (unhide XR) Tryd.underlying61 rfl (by kernel_rfl)) rfl ⟨⟨g, rfl, own_base (unhide ONR) (fun q hq => by have := unhide LN; cases hq; show w.heap.size ≤ g; omega)⟩, unhide BR⟩
set_option maxRecDepth 20000 in
set_option maxHeartbeats 2000000 in
theorem eqOp_same (k : Int) (p t : ByteArray) (d : Bool) (i : Int) (a b : Option Addr) (c e : Nat) (nl : List Int) (w : World) (h : IntsAt w a nl) (h2 : IntsAt w b nl) (hn : nl.length ≤ 1048576) :
    Calls Tryd.prog 52 #[.agg #[.int .i64 k, .string p, .string t, .bool d, .int .i64 i, .slice a nl.length c], .agg #[.int .i64 k, .string p, .string t, .bool d, .int .i64 i, .slice b nl.length e]] w fun r w' => r = .returned (.bool true) ∧ Below w.heap.size w w' := by
  obtain ⟨W, hW, hWz, HB0, HX0, HY0⟩ := boxes2 w [.int .i64 k, .string p, .string t, .bool d, .int .i64 i, .slice a nl.length c] [.int .i64 k, .string p, .string t, .bool d, .int .i64 i, .slice b nl.length e] 61 61
  have H := hide (h.below (unhide HB0))
  have H2 := hide (h2.below (unhide HB0))
  clear h h2
  have hkk := int_neq_self k
  have hii := int_neq_self i
  have hpp : (p.toList == p.toList) = true := by simp
  have htt : (t.toList == t.toList) = true := by simp
  have hdd : (d == d) = true := by simp
  go_enter Tryd.func52, Tryd.ntmps52
  go_wp2_with fail
  rw [← hW]
  clear hW
  refine (eqInt64S_same a b c e nl _ (unhide H) (unhide H2) hn).mono ?_
  rintro r w3 ⟨rfl, hb3⟩
  have B3 := hide (below_step (unhide HB0) hb3 (by omega))
  clear hb3
  go_wp2_with fail
  go_ret
  exact ⟨rfl, unhide B3⟩
end Go.Proofs.YtcmekhpphgkglaaDoor
