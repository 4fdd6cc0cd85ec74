/-
  What the laws' own sizes, copies and comparisons of events answer.
-/
import Derived.Test.YtcccpifecojijaaDoorOpLaws
import Derived.Test.YtcccpifecojijaaDoorNoteMath
namespace Go.Proofs.YtcccpifecojijaaDoor
open Go.RowKit
set_option linter.unusedVariables false

set_option maxRecDepth 20000 in
set_option maxHeartbeats 2000000 in
theorem szEvent_any (k wo at_ : Int) (nf : Nat) (ok : Int) (op ot : ByteArray) (od : Bool) (oi : Int) (n1 : Nat) (af a1 : Option Addr) (cf c1 : Nat) (left : Int) (w : World) (h0 : 0 ≤ left) (h1 : left ≤ 1048576) (hf : nf ≤ maxLen) (hp : op.size ≤ maxLen) (ht : ot.size ≤ maxLen) (hn : n1 ≤ maxLen) :
    Calls Tryd.prog 19 #[.agg #[.int .i64 k, .int .i64 wo, .int .i64 at_, .slice af nf cf, .int .i64 ok, .string op, .string ot, .bool od, .int .i64 oi, .slice a1 n1 c1], .int .i64 left] w fun r w' => (∃ x : Int, r = .returned (.int .i64 x) ∧ (x < 0 ∨ (0 ≤ x ∧ x ≤ left ∧ (nf : Int) ≤ left ∧ (op.size : Int) ≤ left ∧ (ot.size : Int) ≤ left ∧ (n1 : Int) ≤ left))) ∧ Below w.heap.size w w' := by
  obtain ⟨W, hW, hWz, HB0, HP0⟩ := boxes1 w [.int .i64 k, .int .i64 wo, .int .i64 at_, .slice af nf cf, .int .i64 ok, .string op, .string ot, .bool od, .int .i64 oi, .slice a1 n1 c1] 40
  go_enter Tryd.func19, Tryd.ntmps19
  go_wp2_with fail
  rw [← hW]
  clear hW
  refine (szInt64S_any af nf cf left _ h0 h1 hf).mono ?_
  rintro r w2 ⟨⟨y, rfl, hy⟩, rfl⟩
  by_cases hy0 : y < 0
  · clear hy
    go_wp2_with fail
    go_ret
    exact ⟨⟨_, rfl, .inl (by decide)⟩, unhide HB0⟩
  have hy1 : 0 ≤ y ∧ y ≤ left ∧ (nf : Int) ≤ left := by
    rcases hy with ⟨h, _⟩ | ⟨h, h'⟩
    · omega
    · omega
  obtain ⟨y1, y2, y3⟩ := hy1
  have Y3 := hide y3
  clear hy y3
  have p4 := (unhide HP0).cell 4
  have p5 := (unhide HP0).cell 5
  have p6 := (unhide HP0).cell 6
  have p7 := (unhide HP0).cell 7
  have p8 := (unhide HP0).cell 8
  have p9 := (unhide HP0).cell 9
  simp only [List.getElem?_cons_zero, List.getElem?_cons_succ] at p4 p5 p6 p7 p8 p9
  go_wp2_with fail
  refine (szOp_any ok op ot od oi n1 a1 c1 y _ y1 (by omega) hp ht hn).mono ?_
  rintro r w3 ⟨⟨z, rfl, hz⟩, hb3⟩
  have B3 := hide (below_step (unhide HB0) hb3 (by omega))
  clear hb3 p4 p5 p6 p7 p8 p9
  by_cases hz0 : z < 0
  · clear hz
    go_wp2_with fail
    go_ret
    exact ⟨⟨_, rfl, .inl (by decide)⟩, unhide B3⟩
  have hz1 : 0 ≤ z ∧ z ≤ left ∧ (nf : Int) ≤ left ∧ (op.size : Int) ≤ left ∧ (ot.size : Int) ≤ left ∧ (n1 : Int) ≤ left := by
    have := unhide Y3
    rcases hz with h | h
    · omega
    · omega
  have HZ := hide hz1
  clear hz hz1
  go_wp2_with fail
  go_ret
  exact ⟨⟨_, rfl, .inr (unhide HZ)⟩, unhide B3⟩
set_option maxRecDepth 20000 in
set_option maxHeartbeats 4000000 in
theorem toEvent_any (k wo at_ : Int) (fl : List Int) (ok : Int) (op ot : ByteArray) (od : Bool) (oi : Int) (on : List Int) (af a1 : Option Addr) (cf c1 : Nat) (w : World) (hf : IntsAt w af fl) (h : IntsAt w a1 on) (hl : fl.length ≤ 1048576) (hn : on.length ≤ 1048576) :
    Calls Tryd.prog 21 #[.agg #[.int .i64 k, .int .i64 wo, .int .i64 at_, .slice af fl.length cf, .int .i64 ok, .string op, .string ot, .bool od, .int .i64 oi, .slice a1 on.length c1]] w fun r w' => (∃ gf g1, r = .returned (.agg #[.int .i64 k, .int .i64 wo, .int .i64 at_, .slice (some ⟨gf, 0, none⟩) fl.length fl.length, .int .i64 ok, .string op, .string ot, .bool od, .int .i64 oi, .slice (some ⟨g1, 0, none⟩) on.length on.length]) ∧ IntsAt w' (some ⟨gf, 0, none⟩) fl ∧ IntsAt w' (some ⟨g1, 0, none⟩) on ∧ w.heap.size ≤ gf ∧ w.heap.size ≤ g1) ∧ Below w.heap.size w w' := by
  obtain ⟨W, hW, hWz, HB0, HP0, HX0, HY0⟩ := boxes3 w [.int .i64 k, .int .i64 wo, .int .i64 at_, .slice af fl.length cf, .int .i64 ok, .string op, .string ot, .bool od, .int .i64 oi, .slice a1 on.length c1] [.int .i64 0, .int .i64 0, .int .i64 0, .slice none 0 0, .int .i64 0, .string ⟨#[]⟩, .string ⟨#[]⟩, .bool false, .int .i64 0, .slice none 0 0] [.int .i64 k, .int .i64 wo, .int .i64 at_, .slice none 0 0, .int .i64 0, .string ⟨#[]⟩, .string ⟨#[]⟩, .bool false, .int .i64 0, .slice none 0 0] 40 44 44
  have F1 := hide (hf.below (unhide HB0))
  have H1 := hide h
  clear h hf
  go_enter Tryd.func21, Tryd.ntmps21
  go_wp2_with fail
  rw [← hW]
  clear hW
  have np1 : w.heap.size ≠ w.heap.size + 1 + 1 := by omega
  refine (toInt64S_ex af cf fl _ (unhide F1) hl).mono ?_
  rintro r w3 ⟨⟨gf, rfl, ho⟩, hb3⟩
  have HP3 := hide ((unhide HP0).below hb3)
  have HX3 := hide ((unhide HX0).below hb3)
  have HY3 := hide ((unhide HY0).below hb3)
  have B3 := hide (below_step (unhide HB0) hb3 (by omega))
  have I3 := hide (intsAt_own1 (l := fl) ho)
  have L1 : Hid (w.heap.size + 1 + 1 < gf) := by have := ho.lt gf rfl; show _ < _; omega
  have z3 : w.heap.size + 1 + 1 < w3.heap.size := by have := hb3.size; omega
  clear hb3 ho HP0 HX0 HY0 HB0 F1
  have t5 := (unhide HY3).cell 3
  have f5 := (unhide HY3).frozen 3
  simp only [List.getElem?_cons_zero, List.getElem?_cons_succ] at t5
  have HY4 : Hid (Box (w3.setCell ⟨w.heap.size + 1 + 1, 3, none⟩ (.slice (some ⟨gf, 0, none⟩) fl.length fl.length)) (w.heap.size + 1 + 1) [.int .i64 k, .int .i64 wo, .int .i64 at_, .slice (some ⟨gf, 0, none⟩) fl.length fl.length, .int .i64 0, .string ⟨#[]⟩, .string ⟨#[]⟩, .bool false, .int .i64 0, .slice none 0 0] 44) := (unhide HY3).set 3 _
  have HX4 := hide ((unhide HX3).set_other (p := ⟨w.heap.size + 1 + 1, 3, none⟩) (by show w.heap.size + 1 ≠ w.heap.size + 1 + 1; omega) (.slice (some ⟨gf, 0, none⟩) fl.length fl.length))
  have HP4 := hide ((unhide HP3).set_other (p := ⟨w.heap.size + 1 + 1, 3, none⟩) (by show w.heap.size ≠ w.heap.size + 1 + 1; omega) (.slice (some ⟨gf, 0, none⟩) fl.length fl.length))
  have B4 := hide ((unhide B3).setCell (p := ⟨w.heap.size + 1 + 1, 3, none⟩) (by show w.heap.size ≤ w.heap.size + 1 + 1; omega) (.slice (some ⟨gf, 0, none⟩) fl.length fl.length))
  have O4 : Hid (Out (fun q => q = w.heap.size + 1 + 1) w3 (w3.setCell ⟨w.heap.size + 1 + 1, 3, none⟩ (.slice (some ⟨gf, 0, none⟩) fl.length fl.length))) := (Out.refl (fun q => q = w.heap.size + 1 + 1) w3).setCell (p := ⟨w.heap.size + 1 + 1, 3, none⟩) (.inl rfl) _
  have I4 := hide ((unhide O4).ints (unhide I3) (fun q hq e => by have := unhide L1; cases hq; simp at e; omega))
  have z4 : w.heap.size + 1 + 1 < (w3.setCell ⟨w.heap.size + 1 + 1, 3, none⟩ (.slice (some ⟨gf, 0, none⟩) fl.length fl.length)).heap.size := by have := (unhide O4).size; omega
  obtain ⟨w4, hw4⟩ : ∃ w4, w4 = w3.setCell ⟨w.heap.size + 1 + 1, 3, none⟩ (.slice (some ⟨gf, 0, none⟩) fl.length fl.length) := ⟨_, rfl⟩
  have p4 := (unhide HP4).cell 4
  have p5 := (unhide HP4).cell 5
  have p6 := (unhide HP4).cell 6
  have p7 := (unhide HP4).cell 7
  have p8 := (unhide HP4).cell 8
  have p9 := (unhide HP4).cell 9
  simp only [List.getElem?_cons_zero, List.getElem?_cons_succ] at p4 p5 p6 p7 p8 p9
  rw [← hw4] at HY4 HX4 B4 I4 z4
  clear O4 HP3 HX3 B3 I3
  go_wp2_with fail
  rw [← hw4]
  clear hw4 t5 f5 HY3 p4 p5 p6 p7 p8 p9
  refine (toOp_any ok op ot od oi on a1 c1 _ ((unhide H1).below (unhide B4)) hn).mono ?_
  rintro r w5 ⟨⟨g1, rfl, ho⟩, hb5⟩
  have HX5 := hide ((unhide HX4).below hb5)
  have HY5 := hide ((unhide HY4).below hb5)
  have B5 := hide (below_step (unhide B4) hb5 (by omega))
  have I5 := hide ((unhide I4).below hb5)
  have J5 := hide (intsAt_own1 (l := on) ho)
  have L2 : Hid (w.heap.size + 1 + 1 < g1) := by have := ho.lt g1 rfl; show _ < _; omega
  have z5 : w.heap.size + 1 + 1 < w5.heap.size := by have := hb5.size; omega
  clear hb5 ho HX4 HY4 HP4 B4 I4 H1 z4
  go_wp2_with (first
    | (refine wpList_store_part rfl 34 (.tmp 20) (.tmp 19) rfl (w.heap.size + 1 + 1) 4 _ rfl rfl 44 _ (unhide HY5) (by kernel_rfl) (by simp) (by simp [Value.oneCell']) ?_; intro w6 X6 O6; have HY6 : Hid (Box w6 (w.heap.size + 1 + 1) [.int .i64 k, .int .i64 wo, .int .i64 at_, .slice (some ⟨gf, 0, none⟩) fl.length fl.length, .int .i64 ok, .string op, .string ot, .bool od, .int .i64 oi, .slice (some ⟨g1, 0, none⟩) on.length on.length] 44) := X6; have HX6 := hide ((unhide HX5).out (unhide O6) (by show ¬ w.heap.size + 1 = w.heap.size + 1 + 1; omega)); have B6 := hide ((unhide O6).below (unhide B5) (Nat.le_refl _) (fun q hq e => by omega)); have I6 := hide ((unhide O6).ints (unhide I5) (fun ad had e => by have := unhide L1; cases had; simp at e; omega)); have J6 := hide ((unhide O6).ints (unhide J5) (fun ad had e => by have := unhide L2; cases had; simp at e; omega)); clear X6 O6 HX5 HY5 B5 I5 J5)
    | (refine wpList_load_part rfl 44 (.tmp 3) rfl (w.heap.size + 1 + 1) 0 rfl 44 _ [.int .i64 k, .int .i64 wo, .int .i64 at_, .slice (some ⟨gf, 0, none⟩) fl.length fl.length, .int .i64 ok, .string op, .string ot, .bool od, .int .i64 oi, .slice (some ⟨g1, 0, none⟩) on.length on.length] (unhide HY6) rfl _ Tryd.underlying44 rfl (by kernel_rfl) ?_)
    | (refine wpList_store_part rfl 44 (.tmp 2) (.tmp 21) rfl (w.heap.size + 1) 0 _ rfl rfl 44 _ (unhide HX6) (by kernel_rfl) (by simp) (by simp [Value.oneCell']) ?_; intro wZ XZ OZ))
  have XR : Hid (Box wZ (w.heap.size + 1) [.int .i64 k, .int .i64 wo, .int .i64 at_, .slice (some ⟨gf, 0, none⟩) fl.length fl.length, .int .i64 ok, .string op, .string ot, .bool od, .int .i64 oi, .slice (some ⟨g1, 0, none⟩) on.length on.length] 44) := XZ
  have BR : Hid (Below w.heap.size w wZ) := (unhide OZ).below (unhide B6) (Nat.le_refl _) (fun q hq e => by omega)
  have IR := hide ((unhide OZ).ints (unhide I6) (fun ad had e => by have := unhide L1; cases had; simp at e; omega))
  have JR := hide ((unhide OZ).ints (unhide J6) (fun ad had e => by have := unhide L2; cases had; simp at e; omega))
  clear XZ OZ HX6 HY6 B6 I6 J6
  refine bodyPost_ret (results_cell_row Tryd.results21 _ wZ (w.heap.size + 1) 44 _ (0, 0) _ rfl (unhide XR) Tryd.underlying44 rfl (by kernel_rfl)) rfl ⟨⟨gf, g1, rfl, unhide IR, unhide JR, by have := unhide L1; show w.heap.size ≤ gf; omega, by have := unhide L2; show w.heap.size ≤ g1; omega⟩, unhide BR⟩
set_option maxRecDepth 20000 in
set_option maxHeartbeats 2000000 in
theorem eqEvent_same (k wo at_ : Int) (fl : List Int) (ok : Int) (op ot : ByteArray) (od : Bool) (oi : Int) (on : List Int) (af a1 bf b1 : Option Addr) (cf c1 df d1 : Nat) (w : World) (hf : IntsAt w af fl) (h : IntsAt w a1 on) (hf2 : IntsAt w bf fl) (h2 : IntsAt w b1 on) (hl : fl.length ≤ 1048576) (hn : on.length ≤ 1048576) :
    Calls Tryd.prog 23 #[.agg #[.int .i64 k, .int .i64 wo, .int .i64 at_, .slice af fl.length cf, .int .i64 ok, .string op, .string ot, .bool od, .int .i64 oi, .slice a1 on.length c1], .agg #[.int .i64 k, .int .i64 wo, .int .i64 at_, .slice bf fl.length df, .int .i64 ok, .string op, .string ot, .bool od, .int .i64 oi, .slice b1 on.length d1]] w fun r w' => r = .returned (.bool true) ∧ Below w.heap.size w w' := by
  obtain ⟨W, hW, hWz, HB0, HX0, HY0⟩ := boxes2 w [.int .i64 k, .int .i64 wo, .int .i64 at_, .slice af fl.length cf, .int .i64 ok, .string op, .string ot, .bool od, .int .i64 oi, .slice a1 on.length c1] [.int .i64 k, .int .i64 wo, .int .i64 at_, .slice bf fl.length df, .int .i64 ok, .string op, .string ot, .bool od, .int .i64 oi, .slice b1 on.length d1] 44 44
  have H := hide (h.below (unhide HB0))
  have H2 := hide (h2.below (unhide HB0))
  have F := hide (hf.below (unhide HB0))
  have F2 := hide (hf2.below (unhide HB0))
  clear h h2 hf hf2
  have hkk := int_neq_self k
  have hww := int_neq_self wo
  have haa := int_neq_self at_
  go_enter Tryd.func23, Tryd.ntmps23
  go_wp2_with fail
  rw [← hW]
  clear hW
  refine (eqInt64S_same af bf cf df fl _ (unhide F) (unhide F2) hl).mono ?_
  rintro r w3 ⟨rfl, hb3⟩
  have X3 := hide ((unhide HX0).below hb3)
  have Y3 := hide ((unhide HY0).below hb3)
  have I3 := hide ((unhide H).below hb3)
  have I4 := hide ((unhide H2).below hb3)
  have B3 := hide (below_step (unhide HB0) hb3 (by omega))
  have z3 := hb3.size
  clear hb3 HX0 HY0 H H2 HB0 F F2
  have x4 := (unhide X3).cell 4
  have y4 := (unhide Y3).cell 4
  have x5 := (unhide X3).cell 5
  have y5 := (unhide Y3).cell 5
  have x6 := (unhide X3).cell 6
  have y6 := (unhide Y3).cell 6
  have x7 := (unhide X3).cell 7
  have y7 := (unhide Y3).cell 7
  have x8 := (unhide X3).cell 8
  have y8 := (unhide Y3).cell 8
  have x9 := (unhide X3).cell 9
  have y9 := (unhide Y3).cell 9
  simp only [List.getElem?_cons_zero, List.getElem?_cons_succ] at x4 x5 x6 x7 x8 x9 y4 y5 y6 y7 y8 y9
  go_wp2_with fail
  refine (eqOp_same ok op ot od oi a1 b1 c1 d1 on _ (unhide I3) (unhide I4) hn).mono ?_
  rintro r w4 ⟨rfl, hb4⟩
  have B4 := hide (below_step (unhide B3) hb4 (by omega))
  clear hb4 B3 X3 Y3 x4 x5 x6 x7 x8 x9 y4 y5 y6 y7 y8 y9
  go_wp2_with fail
  go_ret
  exact ⟨rfl, unhide B4⟩
end Go.Proofs.YtcccpifecojijaaDoor
