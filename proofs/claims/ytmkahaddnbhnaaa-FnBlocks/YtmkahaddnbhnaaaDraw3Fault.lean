/-
  The laws' draws of nodes that may be wrong, and of epochs.
-/
import Derived.Test.YtmkahaddnbhnaaaDraw3Node
namespace Go.Proofs.Ytmkahaddnbhnaaa
open Go.RowKit
set_option linter.unusedVariables false

theorem offerI (P : Int → Prop) (l : List Int) (h : ∀ v ∈ l, P v) : ∀ x, x ∈ nums l → ∃ v : Int, P v ∧ x = .int .i64 v := by
  intro x hx
  obtain ⟨v, hv, rfl⟩ := List.mem_map.1 hx
  exact ⟨v, h v hv, rfl⟩
/-- Out of all but block s, from below. -/
theorem Out.belowS {s B : Nat} {w0 w w' : World} (ho : Out (fun q => q = s) w w') (h : Below B w0 w) (hB : B ≤ w0.heap.size) (hs : B ≤ s) : Below B w0 w' := ho.below h hB (fun q hq e => by omega)

set_option maxRecDepth 20000 in
set_option maxHeartbeats 2000000 in
theorem drawNodeFault_any (a : Option Addr) (n c : Nat) (w : World) (h : CodeAt w a n) (hn : n ≤ 1048576) :
    Calls Try.prog 47 #[.slice a n c] w fun r w' => (∃ (u : Int) (d : Bool) (pa : Int) (nm : ByteArray) (sz : Int), r = .returned (.agg #[.int .i64 u, .bool d, .int .i64 pa, .string nm, .int .i64 sz]) ∧ nm.size ≤ 100) ∧ Below w.heap.size w w' := by
  obtain ⟨W, hW, hWz, HB0, HX0⟩ := boxes1 w [.int .i64 0, .bool false, .int .i64 0, .string ⟨#[]⟩, .int .i64 0] 25
  have H := hide (h.below (unhide HB0))
  clear h
  go_enter Try.func47, Try.ntmps47
  go_wp2_with fail
  rw [← hW]
  clear hW
  refine (l1Source_any a n c _).mono ?_
  rintro r W1 ⟨rfl, hW1⟩
  have hS1 : SrcAt W1 115 W.heap.size a n c 0 := by rw [hW1]; exact srcAt_new (unhide H) hn c 0 _
  have HB1 : Hid (Below W.heap.size W W1) := by rw [hW1]; exact (Below.refl _ _).alloc (Nat.le_refl _) _
  have z1 : W.heap.size < W1.heap.size := by rw [hW1]; simp
  have HX1 := hide ((unhide HX0).below (unhide HB1))
  have B1 := hide (below_step (unhide HB0) (unhide HB1) (by omega))
  generalize hse : W.heap.size = s at *
  clear hse hW1 HX0 HB0 HB1 H
  have ns : w.heap.size ≠ s := by omega
  have hws : w.heap.size < s := by omega
  go_wp2_with fail
  refine (drawNode_any s a n c 0 _ hS1 (by omega)).mono ?_
  rintro r w2 ⟨⟨u, d, pa, nm, sz, rfl, u0, u1, hnm, -⟩, ⟨q, hq, h2⟩, o2⟩
  have HNM := hide (isNameL_max hnm)
  have HX2 := hide ((unhide HX1).out o2 ns)
  have B2 := hide (o2.belowS (unhide B1) (Nat.le_refl _) (by omega))
  have z2 : s < w2.heap.size := h2.lt
  obtain ⟨W2, hW2, hW2z, HBw, HY2⟩ := boxes1 w2 [.int .i64 u, .bool d, .int .i64 pa, .string nm, .int .i64 sz] 25
  have H2 := hide (h2.below (unhide HBw))
  have HX3 := hide ((unhide HX2).below (unhide HBw))
  have B3 := hide (below_step (unhide B2) (unhide HBw) (by omega))
  clear o2 h2 HX1 B1 hS1 HX2 B2 HBw hnm
  go_wp2_with fail
  rw [← hW2]
  clear hW2
  refine (next_out s a n c q 12 _ (unhide H2) (by omega) (by omega) (by omega)).mono ?_
  rintro r w3 ⟨⟨v, rfl, v0, v1⟩, h3, o3⟩
  have H3 := hide h3
  have ns2 : w2.heap.size ≠ s := by omega
  have ne2 : w.heap.size ≠ w2.heap.size := by omega
  have HX4 := hide ((unhide HX3).out o3 ns)
  have HY4 := hide ((unhide HY2).out o3 ns2)
  have B4 := hide (o3.belowS (unhide B3) (Nat.le_refl _) (by omega))
  have z3 : w2.heap.size < w3.heap.size := by have := o3.size; omega
  clear h3 o3 HX3 HY2 B3 H2
  by_cases hv : v = 0
  · have e0 : (v == 0) = true := by simpa using hv
    clear hv
    have t0 := (unhide HY4).cell 0
    have t1 := (unhide HY4).cell 1
    have t2 := (unhide HY4).cell 2
    have t3 := (unhide HY4).cell 3
    have t4 := (unhide HY4).cell 4
    simp only [List.getElem?_cons_zero, List.getElem?_cons_succ] at t0 t1 t2 t3 t4
    have tf0 := (unhide HY4).frozen 0
    have tf1 := (unhide HY4).frozen 1
    have tf2 := (unhide HY4).frozen 2
    have tf3 := (unhide HY4).frozen 3
    have tf4 := (unhide HY4).frozen 4
    go_wp2_with fail
    clear t0 t1 t2 t3 t4 tf0 tf1 tf2 tf3 tf4
    refine (pick_new s a n c (q + 1) (fun _ => True) (nums [0, 999, 1000]).toArray 2 3 w3 (unhide H3) (by omega) rfl (by omega) (by omega) (offerI _ _ (fun _ _ => trivial))).mono ?_
    rintro r w4 ⟨⟨x, hx, rfl⟩, h4, o4⟩
    have HX5 := hide ((unhide HX4).out o4 ns)
    have HY5 := hide ((unhide HY4).out o4 ns2)
    have B5 := hide (o4.belowS (unhide B4) (Nat.le_refl _) (by omega))
    have z4 : w2.heap.size < w4.heap.size := by have := o4.size; omega
    clear h4 o4 HX4 HY4 B4 hx
    have t0 := (unhide HY5).cell 0
    have t1 := (unhide HY5).cell 1
    have t2 := (unhide HY5).cell 2
    have t3 := (unhide HY5).cell 3
    have t4 := (unhide HY5).cell 4
    simp only [List.getElem?_cons_zero, List.getElem?_cons_succ] at t0 t1 t2 t3 t4
    have tf0 := (unhide HY5).frozen 0
    have tf1 := (unhide HY5).frozen 1
    have tf2 := (unhide HY5).frozen 2
    have tf3 := (unhide HY5).frozen 3
    have tf4 := (unhide HY5).frozen 4
    have q0 := (unhide HX5).cell 0
    have q1 := (unhide HX5).cell 1
    have q2 := (unhide HX5).cell 2
    have q3 := (unhide HX5).cell 3
    have q4 := (unhide HX5).cell 4
    simp only [List.getElem?_cons_zero, List.getElem?_cons_succ] at q0 q1 q2 q3 q4
    have qf0 := (unhide HX5).frozen 0
    have qf1 := (unhide HX5).frozen 1
    have qf2 := (unhide HX5).frozen 2
    have qf3 := (unhide HX5).frozen 3
    have qf4 := (unhide HX5).frozen 4
    go_wp2_with fail
    clear t0 t1 t2 t3 t4 tf0 tf1 tf2 tf3 tf4 q0 q1 q2 q3 q4 qf0 qf1 qf2 qf3 qf4
    generalize hV : w4.setCell ⟨w2.heap.size, 0, none⟩ (.int .i64 x) = V at *
    have OV : Hid (Out (fun q => q = w2.heap.size) w4 V) := hV ▸ (Out.refl (fun q => q = w2.heap.size) w4).one 0 _
    have HXV := hide ((unhide HX5).out (unhide OV) ne2)
    have BV := hide ((unhide OV).below (unhide B5) (Nat.le_refl _) (fun q hq e => by omega))
    clear hV OV HX5 HY5 B5
    generalize hU : ((((V.setCell _ _).setCell _ _).setCell _ _).setCell _ _).setCell _ _ = U at *
    have XU : Hid (Box U w.heap.size [.int .i64 x, .bool d, .int .i64 pa, .string nm, .int .i64 sz] 25) := hU ▸ (((((unhide HXV).set 0 _).set 1 _).set 2 _).set 3 _).set 4 _
    have OU : Hid (Out (fun q => q = w.heap.size) V U) := hU ▸ (((((Out.refl (fun q => q = w.heap.size) V).one 0 _).one 1 _).one 2 _).one 3 _).one 4 _
    have BU := hide ((unhide OU).below (unhide BV) (Nat.le_refl _) (fun q hq e => by omega))
    clear hU OU
    refine bodyPost_ret (results_cell_row Try.results47 _ U w.heap.size 25 _ (0, 0) _ rfl (unhide XU) Try.underlying25 rfl (by kernel_rfl)) rfl ⟨⟨_, _, _, _, _, rfl, unhide HNM⟩, unhide BU⟩
  have hv0 := hv
  clear hv
  by_cases hv : v = 1
  · have e0 : (v == 0) = false := by simp; omega
    have e1 : (v == 1) = true := by simpa using hv
    clear hv
    have t0 := (unhide HY4).cell 0
    have t1 := (unhide HY4).cell 1
    have t2 := (unhide HY4).cell 2
    have t3 := (unhide HY4).cell 3
    have t4 := (unhide HY4).cell 4
    simp only [List.getElem?_cons_zero, List.getElem?_cons_succ] at t0 t1 t2 t3 t4
    have tf0 := (unhide HY4).frozen 0
    have tf1 := (unhide HY4).frozen 1
    have tf2 := (unhide HY4).frozen 2
    have tf3 := (unhide HY4).frozen 3
    have tf4 := (unhide HY4).frozen 4
    go_wp2_with fail
    clear t0 t1 t2 t3 t4 tf0 tf1 tf2 tf3 tf4
    refine (pick_new s a n c (q + 1) (fun _ => True) (nums [-1, u, 1000]).toArray 2 3 w3 (unhide H3) (by omega) rfl (by omega) (by omega) (offerI _ _ (fun _ _ => trivial))).mono ?_
    rintro r w4 ⟨⟨x, hx, rfl⟩, h4, o4⟩
    have HX5 := hide ((unhide HX4).out o4 ns)
    have HY5 := hide ((unhide HY4).out o4 ns2)
    have B5 := hide (o4.belowS (unhide B4) (Nat.le_refl _) (by omega))
    have z4 : w2.heap.size < w4.heap.size := by have := o4.size; omega
    clear h4 o4 HX4 HY4 B4 hx
    have t0 := (unhide HY5).cell 0
    have t1 := (unhide HY5).cell 1
    have t2 := (unhide HY5).cell 2
    have t3 := (unhide HY5).cell 3
    have t4 := (unhide HY5).cell 4
    simp only [List.getElem?_cons_zero, List.getElem?_cons_succ] at t0 t1 t2 t3 t4
    have tf0 := (unhide HY5).frozen 0
    have tf1 := (unhide HY5).frozen 1
    have tf2 := (unhide HY5).frozen 2
    have tf3 := (unhide HY5).frozen 3
    have tf4 := (unhide HY5).frozen 4
    have q0 := (unhide HX5).cell 0
    have q1 := (unhide HX5).cell 1
    have q2 := (unhide HX5).cell 2
    have q3 := (unhide HX5).cell 3
    have q4 := (unhide HX5).cell 4
    simp only [List.getElem?_cons_zero, List.getElem?_cons_succ] at q0 q1 q2 q3 q4
    have qf0 := (unhide HX5).frozen 0
    have qf1 := (unhide HX5).frozen 1
    have qf2 := (unhide HX5).frozen 2
    have qf3 := (unhide HX5).frozen 3
    have qf4 := (unhide HX5).frozen 4
    go_wp2_with fail
    clear t0 t1 t2 t3 t4 tf0 tf1 tf2 tf3 tf4 q0 q1 q2 q3 q4 qf0 qf1 qf2 qf3 qf4
    generalize hV : w4.setCell ⟨w2.heap.size, 2, none⟩ (.int .i64 x) = V at *
    have OV : Hid (Out (fun q => q = w2.heap.size) w4 V) := hV ▸ (Out.refl (fun q => q = w2.heap.size) w4).one 2 _
    have HXV := hide ((unhide HX5).out (unhide OV) ne2)
    have BV := hide ((unhide OV).below (unhide B5) (Nat.le_refl _) (fun q hq e => by omega))
    clear hV OV HX5 HY5 B5
    generalize hU : ((((V.setCell _ _).setCell _ _).setCell _ _).setCell _ _).setCell _ _ = U at *
    have XU : Hid (Box U w.heap.size [.int .i64 u, .bool d, .int .i64 x, .string nm, .int .i64 sz] 25) := hU ▸ (((((unhide HXV).set 0 _).set 1 _).set 2 _).set 3 _).set 4 _
    have OU : Hid (Out (fun q => q = w.heap.size) V U) := hU ▸ (((((Out.refl (fun q => q = w.heap.size) V).one 0 _).one 1 _).one 2 _).one 3 _).one 4 _
    have BU := hide ((unhide OU).below (unhide BV) (Nat.le_refl _) (fun q hq e => by omega))
    clear hU OU
    refine bodyPost_ret (results_cell_row Try.results47 _ U w.heap.size 25 _ (0, 0) _ rfl (unhide XU) Try.underlying25 rfl (by kernel_rfl)) rfl ⟨⟨_, _, _, _, _, rfl, unhide HNM⟩, unhide BU⟩
  have hv1 := hv
  clear hv
  by_cases hv : v = 2
  · have e0 : (v == 0) = false := by simp; omega
    have e1 : (v == 1) = false := by simp; omega
    have e2 : (v == 2) = true := by simpa using hv
    clear hv
    have t0 := (unhide HY4).cell 0
    have t1 := (unhide HY4).cell 1
    have t2 := (unhide HY4).cell 2
    have t3 := (unhide HY4).cell 3
    have t4 := (unhide HY4).cell 4
    simp only [List.getElem?_cons_zero, List.getElem?_cons_succ] at t0 t1 t2 t3 t4
    have tf0 := (unhide HY4).frozen 0
    have tf1 := (unhide HY4).frozen 1
    have tf2 := (unhide HY4).frozen 2
    have tf3 := (unhide HY4).frozen 3
    have tf4 := (unhide HY4).frozen 4
    go_wp2_with fail
    clear t0 t1 t2 t3 t4 tf0 tf1 tf2 tf3 tf4
    refine (say_new s a n c (q + 1) (fun x => x.size ≤ 100) _ _ 3 w3 (unhide H3) (by omega) rfl (by omega) (by omega) (by simp <;> decide)).mono ?_
    rintro r w4 ⟨⟨x, hx, rfl⟩, h4, o4⟩
    have HX5 := hide ((unhide HX4).out o4 ns)
    have HY5 := hide ((unhide HY4).out o4 ns2)
    have B5 := hide (o4.belowS (unhide B4) (Nat.le_refl _) (by omega))
    have z4 : w2.heap.size < w4.heap.size := by have := o4.size; omega
    have HNX := hide hx
    clear h4 o4 HX4 HY4 B4 hx
    have t0 := (unhide HY5).cell 0
    have t1 := (unhide HY5).cell 1
    have t2 := (unhide HY5).cell 2
    have t3 := (unhide HY5).cell 3
    have t4 := (unhide HY5).cell 4
    simp only [List.getElem?_cons_zero, List.getElem?_cons_succ] at t0 t1 t2 t3 t4
    have tf0 := (unhide HY5).frozen 0
    have tf1 := (unhide HY5).frozen 1
    have tf2 := (unhide HY5).frozen 2
    have tf3 := (unhide HY5).frozen 3
    have tf4 := (unhide HY5).frozen 4
    have q0 := (unhide HX5).cell 0
    have q1 := (unhide HX5).cell 1
    have q2 := (unhide HX5).cell 2
    have q3 := (unhide HX5).cell 3
    have q4 := (unhide HX5).cell 4
    simp only [List.getElem?_cons_zero, List.getElem?_cons_succ] at q0 q1 q2 q3 q4
    have qf0 := (unhide HX5).frozen 0
    have qf1 := (unhide HX5).frozen 1
    have qf2 := (unhide HX5).frozen 2
    have qf3 := (unhide HX5).frozen 3
    have qf4 := (unhide HX5).frozen 4
    go_wp2_with fail
    clear t0 t1 t2 t3 t4 tf0 tf1 tf2 tf3 tf4 q0 q1 q2 q3 q4 qf0 qf1 qf2 qf3 qf4
    generalize hV : w4.setCell ⟨w2.heap.size, 3, none⟩ (.string x) = V at *
    have OV : Hid (Out (fun q => q = w2.heap.size) w4 V) := hV ▸ (Out.refl (fun q => q = w2.heap.size) w4).one 3 _
    have HXV := hide ((unhide HX5).out (unhide OV) ne2)
    have BV := hide ((unhide OV).below (unhide B5) (Nat.le_refl _) (fun q hq e => by omega))
    clear hV OV HX5 HY5 B5
    generalize hU : ((((V.setCell _ _).setCell _ _).setCell _ _).setCell _ _).setCell _ _ = U at *
    have XU : Hid (Box U w.heap.size [.int .i64 u, .bool d, .int .i64 pa, .string x, .int .i64 sz] 25) := hU ▸ (((((unhide HXV).set 0 _).set 1 _).set 2 _).set 3 _).set 4 _
    have OU : Hid (Out (fun q => q = w.heap.size) V U) := hU ▸ (((((Out.refl (fun q => q = w.heap.size) V).one 0 _).one 1 _).one 2 _).one 3 _).one 4 _
    have BU := hide ((unhide OU).below (unhide BV) (Nat.le_refl _) (fun q hq e => by omega))
    clear hU OU
    refine bodyPost_ret (results_cell_row Try.results47 _ U w.heap.size 25 _ (0, 0) _ rfl (unhide XU) Try.underlying25 rfl (by kernel_rfl)) rfl ⟨⟨_, _, _, _, _, rfl, unhide HNX⟩, unhide BU⟩
  have hv2 := hv
  clear hv
  by_cases hv : v = 3
  · have e0 : (v == 0) = false := by simp; omega
    have e1 : (v == 1) = false := by simp; omega
    have e2 : (v == 2) = false := by simp; omega
    have e3 : (v == 3) = true := by simpa using hv
    clear hv
    have t0 := (unhide HY4).cell 0
    have t1 := (unhide HY4).cell 1
    have t2 := (unhide HY4).cell 2
    have t3 := (unhide HY4).cell 3
    have t4 := (unhide HY4).cell 4
    simp only [List.getElem?_cons_zero, List.getElem?_cons_succ] at t0 t1 t2 t3 t4
    have tf0 := (unhide HY4).frozen 0
    have tf1 := (unhide HY4).frozen 1
    have tf2 := (unhide HY4).frozen 2
    have tf3 := (unhide HY4).frozen 3
    have tf4 := (unhide HY4).frozen 4
    go_wp2_with fail
    clear t0 t1 t2 t3 t4 tf0 tf1 tf2 tf3 tf4
    refine (pick_new s a n c (q + 1) (fun _ => True) (nums [1, 5, -1]).toArray 2 3 w3 (unhide H3) (by omega) rfl (by omega) (by omega) (offerI _ _ (fun _ _ => trivial))).mono ?_
    rintro r w4 ⟨⟨x, hx, rfl⟩, h4, o4⟩
    have HX5 := hide ((unhide HX4).out o4 ns)
    have HY5 := hide ((unhide HY4).out o4 ns2)
    have B5 := hide (o4.belowS (unhide B4) (Nat.le_refl _) (by omega))
    have z4 : w2.heap.size < w4.heap.size := by have := o4.size; omega
    clear h4 o4 HX4 HY4 B4 hx
    have t0 := (unhide HY5).cell 0
    have t1 := (unhide HY5).cell 1
    have t2 := (unhide HY5).cell 2
    have t3 := (unhide HY5).cell 3
    have t4 := (unhide HY5).cell 4
    simp only [List.getElem?_cons_zero, List.getElem?_cons_succ] at t0 t1 t2 t3 t4
    have tf0 := (unhide HY5).frozen 0
    have tf1 := (unhide HY5).frozen 1
    have tf2 := (unhide HY5).frozen 2
    have tf3 := (unhide HY5).frozen 3
    have tf4 := (unhide HY5).frozen 4
    have q0 := (unhide HX5).cell 0
    have q1 := (unhide HX5).cell 1
    have q2 := (unhide HX5).cell 2
    have q3 := (unhide HX5).cell 3
    have q4 := (unhide HX5).cell 4
    simp only [List.getElem?_cons_zero, List.getElem?_cons_succ] at q0 q1 q2 q3 q4
    have qf0 := (unhide HX5).frozen 0
    have qf1 := (unhide HX5).frozen 1
    have qf2 := (unhide HX5).frozen 2
    have qf3 := (unhide HX5).frozen 3
    have qf4 := (unhide HX5).frozen 4
    go_wp2_with fail
    clear t0 t1 t2 t3 t4 tf0 tf1 tf2 tf3 tf4 q0 q1 q2 q3 q4 qf0 qf1 qf2 qf3 qf4
    generalize hV : w4.setCell ⟨w2.heap.size, 4, none⟩ (.int .i64 x) = V at *
    have OV : Hid (Out (fun q => q = w2.heap.size) w4 V) := hV ▸ (Out.refl (fun q => q = w2.heap.size) w4).one 4 _
    have HXV := hide ((unhide HX5).out (unhide OV) ne2)
    have BV := hide ((unhide OV).below (unhide B5) (Nat.le_refl _) (fun q hq e => by omega))
    clear hV OV HX5 HY5 B5
    generalize hU : ((((V.setCell _ _).setCell _ _).setCell _ _).setCell _ _).setCell _ _ = U at *
    have XU : Hid (Box U w.heap.size [.int .i64 u, .bool d, .int .i64 pa, .string nm, .int .i64 x] 25) := hU ▸ (((((unhide HXV).set 0 _).set 1 _).set 2 _).set 3 _).set 4 _
    have OU : Hid (Out (fun q => q = w.heap.size) V U) := hU ▸ (((((Out.refl (fun q => q = w.heap.size) V).one 0 _).one 1 _).one 2 _).one 3 _).one 4 _
    have BU := hide ((unhide OU).below (unhide BV) (Nat.le_refl _) (fun q hq e => by omega))
    clear hU OU
    refine bodyPost_ret (results_cell_row Try.results47 _ U w.heap.size 25 _ (0, 0) _ rfl (unhide XU) Try.underlying25 rfl (by kernel_rfl)) rfl ⟨⟨_, _, _, _, _, rfl, unhide HNM⟩, unhide BU⟩
  have e0 : (v == 0) = false := by simp; omega
  have e1 : (v == 1) = false := by simp; omega
  have e2 : (v == 2) = false := by simp; omega
  have e3 : (v == 3) = false := by simp; omega
  clear hv hv0 hv1 hv2
  have t0 := (unhide HY4).cell 0
  have t1 := (unhide HY4).cell 1
  have t2 := (unhide HY4).cell 2
  have t3 := (unhide HY4).cell 3
  have t4 := (unhide HY4).cell 4
  simp only [List.getElem?_cons_zero, List.getElem?_cons_succ] at t0 t1 t2 t3 t4
  have tf0 := (unhide HY4).frozen 0
  have tf1 := (unhide HY4).frozen 1
  have tf2 := (unhide HY4).frozen 2
  have tf3 := (unhide HY4).frozen 3
  have tf4 := (unhide HY4).frozen 4
  have q0 := (unhide HX4).cell 0
  have q1 := (unhide HX4).cell 1
  have q2 := (unhide HX4).cell 2
  have q3 := (unhide HX4).cell 3
  have q4 := (unhide HX4).cell 4
  simp only [List.getElem?_cons_zero, List.getElem?_cons_succ] at q0 q1 q2 q3 q4
  have qf0 := (unhide HX4).frozen 0
  have qf1 := (unhide HX4).frozen 1
  have qf2 := (unhide HX4).frozen 2
  have qf3 := (unhide HX4).frozen 3
  have qf4 := (unhide HX4).frozen 4
  go_wp2_with fail
  clear t0 t1 t2 t3 t4 tf0 tf1 tf2 tf3 tf4 q0 q1 q2 q3 q4 qf0 qf1 qf2 qf3 qf4
  generalize hU : ((((w3.setCell _ _).setCell _ _).setCell _ _).setCell _ _).setCell _ _ = U at *
  have XU : Hid (Box U w.heap.size [.int .i64 u, .bool d, .int .i64 pa, .string nm, .int .i64 sz] 25) := hU ▸ (((((unhide HX4).set 0 _).set 1 _).set 2 _).set 3 _).set 4 _
  have OU : Hid (Out (fun q => q = w.heap.size) w3 U) := hU ▸ (((((Out.refl (fun q => q = w.heap.size) w3).one 0 _).one 1 _).one 2 _).one 3 _).one 4 _
  have BU := hide ((unhide OU).below (unhide B4) (Nat.le_refl _) (fun q hq e => by omega))
  clear hU OU
  refine bodyPost_ret (results_cell_row Try.results47 _ U w.heap.size 25 _ (0, 0) _ rfl (unhide XU) Try.underlying25 rfl (by kernel_rfl)) rfl ⟨⟨_, _, _, _, _, rfl, unhide HNM⟩, unhide BU⟩
end Go.Proofs.Ytmkahaddnbhnaaa
