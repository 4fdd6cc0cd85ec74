/-
  What the laws' own copies of blocks answer.
-/
import Derived.Test.YtmkahaddnbhnaaaBlksMath
import Derived.Test.YtmkahaddnbhnaaaToNodeWalk
import Derived.Test.YtmkahaddnbhnaaaToHeadWalk
import Derived.Test.YtmkahaddnbhnaaaResWalk
namespace Go.Proofs.Ytmkahaddnbhnaaa
open Go.RowKit
set_option linter.unusedVariables false

set_option maxRecDepth 20000 in
set_option maxHeartbeats 2000000 in
theorem toBlock_any (k u i e nu : Int) (nd : Bool) (np : Int) (nn : ByteArray) (ns : Int) (nl : List Int) (a : Option Addr) (c : Nat) (w : World) (h : IntsAt w a nl) (hn : nl.length ≤ 1048576) :
    Calls Try.prog 81 #[.agg #[.int .i64 k, .int .i64 u, .int .i64 i, .int .i64 e, .int .i64 nu, .bool nd, .int .i64 np, .string nn, .int .i64 ns, .slice a nl.length c]] w fun r w' => (∃ g, r = .returned (.agg #[.int .i64 k, .int .i64 u, .int .i64 i, .int .i64 e, .int .i64 nu, .bool nd, .int .i64 np, .string nn, .int .i64 ns, .slice (some ⟨g, 0, none⟩) nl.length nl.length]) ∧ w'.ownsRow w.heap.size 2 1 (.slice (some ⟨g, 0, none⟩) nl.length nl.length) nl.length (nums nl)) ∧ Below w.heap.size w w' := by
  obtain ⟨W, hW, hWz, HB0, HP0, HX0, HY0⟩ := boxes3 w [.int .i64 k, .int .i64 u, .int .i64 i, .int .i64 e, .int .i64 nu, .bool nd, .int .i64 np, .string nn, .int .i64 ns, .slice a nl.length c] [.int .i64 0, .int .i64 0, .int .i64 0, .int .i64 0, .int .i64 0, .bool false, .int .i64 0, .string ⟨#[]⟩, .int .i64 0, .slice none 0 0] [.int .i64 0, .int .i64 0, .int .i64 0, .int .i64 0, .int .i64 0, .bool false, .int .i64 0, .string ⟨#[]⟩, .int .i64 0, .slice none 0 0] 111 43 43
  have H := hide (h.below (unhide HB0))
  have H0 := hide h
  clear h
  go_enter Try.func81, Try.ntmps81
  go_wp2_with fail
  rw [← hW]
  clear hW
  refine (toHead_any k u i e _).mono ?_
  rintro r w1 ⟨rfl, hb1⟩
  have HP1 := hide ((unhide HP0).below hb1)
  have HX1 := hide ((unhide HX0).below hb1)
  have HY1 := hide ((unhide HY0).below hb1)
  have H1 := hide ((unhide H).below hb1)
  have B1 := hide (below_step (unhide HB0) hb1 (by omega))
  have z1 : w.heap.size + 1 + 1 < w1.heap.size := by have := hb1.size; omega
  clear hb1 HP0 HX0 HY0 H HB0
  have p4 := (unhide HP1).cell 4
  have p5 := (unhide HP1).cell 5
  have p6 := (unhide HP1).cell 6
  have p7 := (unhide HP1).cell 7
  have p8 := (unhide HP1).cell 8
  simp only [List.getElem?_cons_zero, List.getElem?_cons_succ] at p4 p5 p6 p7 p8
  have np1 : w.heap.size ≠ w.heap.size + 1 + 1 := by omega
  go_wp2_with (first | (refine wpList_store_part rfl 41 (.tmp 7) (.tmp 6) rfl (w.heap.size + 1 + 1) 0 _ rfl rfl 43 _ (unhide HY1) (by kernel_rfl) (by simp) (by simp [Value.oneCell']) ?_; intro w2 X2 O2; have p4' := ((unhide HP1).out (unhide O2) np1).cell 4; have p5' := ((unhide HP1).out (unhide O2) np1).cell 5; have p6' := ((unhide HP1).out (unhide O2) np1).cell 6; have p7' := ((unhide HP1).out (unhide O2) np1).cell 7; have p8' := ((unhide HP1).out (unhide O2) np1).cell 8; simp only [List.getElem?_cons_zero, List.getElem?_cons_succ] at p4' p5' p6' p7' p8'))
  have HP2 := hide ((unhide HP1).out (unhide O2) np1)
  have HX2 := hide ((unhide HX1).out (unhide O2) (by show ¬ w.heap.size + 1 = w.heap.size + 1 + 1; omega))
  have HY2 : Hid (Box w2 (w.heap.size + 1 + 1) [.int .i64 k, .int .i64 u, .int .i64 i, .int .i64 e, .int .i64 0, .bool false, .int .i64 0, .string ⟨#[]⟩, .int .i64 0, .slice none 0 0] 43) := X2
  have B2 := hide ((unhide O2).below (unhide B1) (Nat.le_refl _) (fun q hq e => by omega))
  have z2 : w.heap.size + 1 + 1 < w2.heap.size := by have := (unhide O2).size; omega
  clear X2 O2 HP1 HX1 HY1 B1 H1 p4 p5 p6 p7 p8 p4' p5' p6' p7' p8'
  refine (toNode_any nu nd np nn ns _).mono ?_
  rintro r w3 ⟨rfl, hb3⟩
  have HP3 := hide ((unhide HP2).below hb3)
  have HX3 := hide ((unhide HX2).below hb3)
  have HY3 := hide ((unhide HY2).below hb3)
  have B3 := hide (below_step (unhide B2) hb3 (by omega))
  have z3 : w.heap.size + 1 + 1 < w3.heap.size := by have := hb3.size; omega
  clear hb3 HP2 HX2 HY2 B2
  go_wp2_with (first | (refine wpList_store_part rfl 25 (.tmp 11) (.tmp 10) rfl (w.heap.size + 1 + 1) 4 _ rfl rfl 43 _ (unhide HY3) (by kernel_rfl) (by simp) (by simp [Value.oneCell']) ?_; intro w4 X4 O4; have p9 := ((unhide HP3).out (unhide O4) np1).cell 9; simp only [List.getElem?_cons_zero, List.getElem?_cons_succ] at p9))
  have HX4 := hide ((unhide HX3).out (unhide O4) (by show ¬ w.heap.size + 1 = w.heap.size + 1 + 1; omega))
  have HY4 : Hid (Box w4 (w.heap.size + 1 + 1) [.int .i64 k, .int .i64 u, .int .i64 i, .int .i64 e, .int .i64 nu, .bool nd, .int .i64 np, .string nn, .int .i64 ns, .slice none 0 0] 43) := X4
  have B4 := hide ((unhide O4).below (unhide B3) (Nat.le_refl _) (fun q hq e => by omega))
  have H4 := hide ((unhide H0).below (unhide B4))
  have z4 : w.heap.size + 1 + 1 < w4.heap.size := by have := (unhide O4).size; omega
  clear X4 O4 HP3 HX3 HY3 B3 p9
  refine (toInt64S_ex a c nl _ (unhide H4) hn).mono ?_
  rintro r w5 ⟨⟨g, rfl, ho⟩, hb5⟩
  have HX5 := hide ((unhide HX4).below hb5)
  have HY5 := hide ((unhide HY4).below hb5)
  have B5 := hide (below_step (unhide B4) hb5 (by omega))
  have ON := hide ho
  have LN : Hid (w.heap.size + 1 + 1 < g) := by have := ho.lt g rfl; show _ < _; omega
  have z5 : w.heap.size + 1 + 1 < w5.heap.size := by have := hb5.size; omega
  clear hb5 ho HX4 HY4 B4 H4
  have t9 := (unhide HY5).cell 9
  have f9 := (unhide HY5).frozen 9
  simp only [List.getElem?_cons_zero, List.getElem?_cons_succ] at t9
  have HYV : Hid (Box (w5.setCell ⟨w.heap.size + 1 + 1, 9, none⟩ (.slice (some ⟨g, 0, none⟩) nl.length nl.length)) (w.heap.size + 1 + 1) [.int .i64 k, .int .i64 u, .int .i64 i, .int .i64 e, .int .i64 nu, .bool nd, .int .i64 np, .string nn, .int .i64 ns, .slice (some ⟨g, 0, none⟩) nl.length nl.length] 43) := (unhide HY5).set 9 _
  have HXV := hide ((unhide HX5).set_other (p := ⟨w.heap.size + 1 + 1, 9, none⟩) (by show w.heap.size + 1 ≠ w.heap.size + 1 + 1; omega) (.slice (some ⟨g, 0, none⟩) nl.length nl.length))
  have BV := hide ((unhide B5).setCell (p := ⟨w.heap.size + 1 + 1, 9, none⟩) (by show w.heap.size ≤ w.heap.size + 1 + 1; omega) (.slice (some ⟨g, 0, none⟩) nl.length nl.length))
  have OV : Hid (Out (fun q => q = w.heap.size + 1 + 1) w5 (w5.setCell ⟨w.heap.size + 1 + 1, 9, none⟩ (.slice (some ⟨g, 0, none⟩) nl.length nl.length))) := (Out.refl (fun q => q = w.heap.size + 1 + 1) w5).setCell (p := ⟨w.heap.size + 1 + 1, 9, none⟩) (.inl rfl) _
  have ONV := hide ((unhide OV).own (unhide ON) (fun q hq e => by have := unhide LN; cases hq; simp at e; omega))
  go_wp2_with (first
    | (refine wpList_load_part rfl 43 (.tmp 3) rfl (w.heap.size + 1 + 1) 0 rfl 43 _ [.int .i64 k, .int .i64 u, .int .i64 i, .int .i64 e, .int .i64 nu, .bool nd, .int .i64 np, .string nn, .int .i64 ns, .slice (some ⟨g, 0, none⟩) nl.length nl.length] (unhide HYV) rfl _ Try.underlying43 rfl (by kernel_rfl) ?_)
    | (refine wpList_store_part rfl 43 (.tmp 2) (.tmp 16) rfl (w.heap.size + 1) 0 _ rfl rfl 43 _ (unhide HXV) (by kernel_rfl) (by simp) (by simp [Value.oneCell']) ?_; intro wZ XZ OZ))
  have XR : Hid (Box wZ (w.heap.size + 1) [.int .i64 k, .int .i64 u, .int .i64 i, .int .i64 e, .int .i64 nu, .bool nd, .int .i64 np, .string nn, .int .i64 ns, .slice (some ⟨g, 0, none⟩) nl.length nl.length] 43) := XZ
  have BR : Hid (Below w.heap.size w wZ) := (unhide OZ).below (unhide BV) (Nat.le_refl _) (fun q hq e => by omega)
  have ONR := hide ((unhide OZ).own (unhide ONV) (fun q hq e => by have := unhide LN; cases hq; simp at e; omega))
  clear XZ OZ HXV HYV BV ONV OV ON t9 f9
  refine bodyPost_ret (results_cell_row Try.results81 _ wZ (w.heap.size + 1) 43 _ (0, 0) _ rfl (unhide XR) Try.underlying43 rfl (by kernel_rfl)) rfl ⟨⟨g, rfl, own_base (unhide ONR) (fun q hq => by have := unhide LN; cases hq; show w.heap.size ≤ g; omega)⟩, unhide BR⟩
end Go.Proofs.Ytmkahaddnbhnaaa
