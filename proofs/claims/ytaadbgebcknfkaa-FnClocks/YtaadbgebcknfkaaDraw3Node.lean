/-
  The laws' draws of nodes.
-/
import Derived.Test.YtaadbgebcknfkaaDraw3Base
namespace Go.Proofs.Ytaadbgebcknfkaa
open Go.RowKit
set_option linter.unusedVariables false

theorem Out.one {r : Nat} {w w' : World} (h : Out (fun q => q = r) w w') (j : Nat) (v : Value) : Out (fun q => q = r) w (w'.setCell ⟨r, j, none⟩ v) := h.setCell (p := ⟨r, j, none⟩) (.inl rfl) v
theorem isNameL_max {nm : ByteArray} (h : isNameL nm.data.toList = true) : nm.size ≤ 100 := by
  simp only [isNameL, Bool.and_eq_true, decide_eq_true_eq] at h
  have := len_data nm
  omega

set_option maxRecDepth 20000 in
set_option maxHeartbeats 1500000 in
theorem drawNode_any (s : Nat) (a : Option Addr) (n c p : Nat) (w : World) (h : SrcAt w 132 s a n c p) (hp : p ≤ 500) :
    Calls Try.prog 31 #[.pointer (some ⟨s, 0, none⟩)] w fun r w' => (∃ (u : Int) (d : Bool) (pa : Int) (nm : ByteArray) (sz : Int), r = .returned (.agg #[.int .i64 u, .bool d, .int .i64 pa, .string nm, .int .i64 sz]) ∧ 1 ≤ u ∧ u ≤ 9 ∧ isNameL nm.data.toList = true ∧ 0 ≤ pa ∧ pa ≤ 10 ∧ 0 ≤ sz ∧ sz ≤ 4) ∧ (∃ q, q ≤ p + 6 ∧ SrcAt w' 132 s a n c q) ∧ Out (fun q => q = s) w w' := by
  have hsl := h.lt
  obtain ⟨W, hW, hWz, HB0, HX0⟩ := boxes1 w [.int .i64 0, .bool false, .int .i64 0, .string ⟨#[]⟩, .int .i64 0] 29
  have H0 := hide (h.below (unhide HB0))
  have O0 : Hid (Out (fun q => q = s) w W) := Out.ofBelow (unhide HB0)
  clear h
  go_enter Try.func31, Try.ntmps31
  go_wp2_with fail
  rw [← hW]
  clear hW
  have ns : w.heap.size ≠ s := by omega
  refine (next_out s a n c p 9 _ (unhide H0) (by omega) (by omega) (by omega)).mono ?_
  rintro r w1 ⟨⟨v, rfl, v0, v1⟩, h1, o1⟩
  have H1 := hide h1
  have HX1 := hide ((unhide HX0).out o1 ns)
  have O1 := hide ((unhide O0).trans o1 (fun _ _ e => e))
  have z1 : w.heap.size < w1.heap.size := by have := o1.size; omega
  clear h1 o1 HX0 O0 H0
  go_wp2_with fail
  refine (chance_out s a n c (p + 1) 3 _ (unhide H1) (by omega) (by omega) (by omega)).mono ?_
  rintro r w2 ⟨⟨d, rfl⟩, h2, o2⟩
  have H2 := hide h2
  have HX2 := hide ((unhide HX1).out o2 ns)
  have O2 := hide ((unhide O1).trans o2 (fun _ _ e => e))
  have z2 : w.heap.size < w2.heap.size := by have := o2.size; omega
  clear h2 o2 HX1 O1 H1
  go_wp2_with fail
  refine (name_out s a n c (p + 1 + 1) _ (unhide H2) (by omega)).mono ?_
  rintro r w3 ⟨⟨nm, hnm, rfl⟩, h3, o3⟩
  have HNM := hide hnm
  have HX3 := hide ((unhide HX2).out o3 ns)
  have O3 := hide ((unhide O2).trans o3 (fun _ _ e => e))
  have z3 : w.heap.size < w3.heap.size := by have := o3.size; omega
  obtain ⟨W3, hW3, hW3z, HB3, HY3⟩ := boxes1 w3 [.int .i64 (1 + v), .bool d, .int .i64 0, .string nm, .int .i64 0] 29
  have H3 := hide (h3.below (unhide HB3))
  have HX4 := hide ((unhide HX3).below (unhide HB3))
  have O4 : Hid (Out (fun q => q = s) w W3) := (unhide O3).trans (Out.ofBelow (F := fun q => q = s) (unhide HB3)) (fun _ _ e => e)
  clear h3 o3 HX2 O2 H2 HX3 O3 hnm HB3
  go_wp2_with fail
  have hzW : W3.heap.size = w3.heap.size + 1 := by rw [hW3]; simp
  rw [← hW3, ← hzW]
  clear hW3 hzW
  have ns3 : w3.heap.size ≠ s := by omega
  have ne3 : w.heap.size ≠ w3.heap.size := by omega
  refine (pick_new s a n c (p + 1 + 1 + 1) (fun x => 0 ≤ x ∧ x ≤ 10) _ _ 4 W3 (unhide H3) (by omega) rfl (by omega) (by omega) (by simp; omega)).mono ?_
  rintro r w5 ⟨⟨pa, hpa, rfl⟩, h5, o5⟩
  have H5 := hide h5
  have HX5 := hide ((unhide HX4).out o5 ns)
  have HY5 := hide ((unhide HY3).out o5 ns3)
  have O5 := hide ((unhide O4).trans o5 (fun _ _ e => e))
  have z5 : w3.heap.size < w5.heap.size := by have := o5.size; omega
  obtain ⟨hpa0, hpa1⟩ := hpa
  clear h5 o5 HX4 O4 H3 HY3
  by_cases hpe : pa = 1 + v
  · have hpb : (pa == 1 + v) = true := by simpa using hpe
    clear hpe
    cases d
    · have t0 := (unhide HY5).cell 0
      have t1 := (unhide HY5).cell 1
      have t2 := (unhide HY5).cell 2
      have t3 := (unhide HY5).cell 3
      have t4 := (unhide HY5).cell 4
      simp only [List.getElem?_cons_zero, List.getElem?_cons_succ] at t0 t1 t2 t3 t4
      have tf0 := (unhide HY5).frozen 0
      have tf1 := (unhide HY5).frozen 1
      have tf2 := (unhide HY5).frozen 2
      have tf3 := (unhide HY5).frozen 3
      have tf4 := (unhide HY5).frozen 4
      have q0 := (unhide HX5).cell 0
      have q1 := (unhide HX5).cell 1
      have q2 := (unhide HX5).cell 2
      have q3 := (unhide HX5).cell 3
      have q4 := (unhide HX5).cell 4
      simp only [List.getElem?_cons_zero, List.getElem?_cons_succ] at q0 q1 q2 q3 q4
      have qf0 := (unhide HX5).frozen 0
      have qf1 := (unhide HX5).frozen 1
      have qf2 := (unhide HX5).frozen 2
      have qf3 := (unhide HX5).frozen 3
      have qf4 := (unhide HX5).frozen 4
      go_wp2_with fail
      clear t0 t1 t2 t3 t4 tf0 tf1 tf2 tf3 tf4 q0 q1 q2 q3 q4 qf0 qf1 qf2 qf3 qf4
      generalize hV : (w5.setCell ⟨w3.heap.size, 2, none⟩ (.int .i64 pa)).setCell ⟨w3.heap.size, 2, none⟩ (.int .i64 0) = V at *
      have OV5 : Hid (Out (fun q => q = w3.heap.size) w5 V) := hV ▸ ((Out.refl (fun q => q = w3.heap.size) w5).one 2 _).one 2 _
      have HYV : Hid (Box V w3.heap.size [.int .i64 (1 + v), .bool _, .int .i64 0, .string nm, .int .i64 0] 29) := hV ▸ ((unhide HY5).set 2 _).set 2 _
      have HXV := hide ((unhide HX5).out (unhide OV5) ne3)
      have HV := hide ((unhide H5).outOther (unhide OV5) (by omega))
      have OV : Hid (Out (fun q => q = s) w V) := (unhide O5).trans (unhide OV5) (fun q hq e => by omega)
      have zV : w3.heap.size < V.heap.size := by have := (unhide OV5).size; omega
      clear hV OV5 HX5 HY5 H5 O5
      refine (next_out s a n c (p + 1 + 1 + 1 + 1) 5 _ (unhide HV) (by omega) (by omega) (by omega)).mono ?_
      rintro r w7 ⟨⟨sz, rfl, sz0, sz1⟩, h7, o7⟩
      have H7 := hide h7
      have HX7 := hide ((unhide HXV).out o7 ns)
      have HY7 := hide ((unhide HYV).out o7 ns3)
      have O7 := hide ((unhide OV).trans o7 (fun _ _ e => e))
      have z7 : w3.heap.size < w7.heap.size := by have := o7.size; omega
      clear h7 o7 HXV HYV OV HV
      have t0 := (unhide HY7).cell 0
      have t1 := (unhide HY7).cell 1
      have t2 := (unhide HY7).cell 2
      have t3 := (unhide HY7).cell 3
      have t4 := (unhide HY7).cell 4
      simp only [List.getElem?_cons_zero, List.getElem?_cons_succ] at t0 t1 t2 t3 t4
      have tf0 := (unhide HY7).frozen 0
      have tf1 := (unhide HY7).frozen 1
      have tf2 := (unhide HY7).frozen 2
      have tf3 := (unhide HY7).frozen 3
      have tf4 := (unhide HY7).frozen 4
      have q0 := (unhide HX7).cell 0
      have q1 := (unhide HX7).cell 1
      have q2 := (unhide HX7).cell 2
      have q3 := (unhide HX7).cell 3
      have q4 := (unhide HX7).cell 4
      simp only [List.getElem?_cons_zero, List.getElem?_cons_succ] at q0 q1 q2 q3 q4
      have qf0 := (unhide HX7).frozen 0
      have qf1 := (unhide HX7).frozen 1
      have qf2 := (unhide HX7).frozen 2
      have qf3 := (unhide HX7).frozen 3
      have qf4 := (unhide HX7).frozen 4
      go_wp2_with fail
      clear t0 t1 t2 t3 t4 tf0 tf1 tf2 tf3 tf4 q0 q1 q2 q3 q4 qf0 qf1 qf2 qf3 qf4
      generalize hV2 : w7.setCell ⟨w3.heap.size, 4, none⟩ (.int .i64 sz) = V2 at *
      have OV5 : Hid (Out (fun q => q = w3.heap.size) w7 V2) := hV2 ▸ (Out.refl (fun q => q = w3.heap.size) w7).one 4 _
      have HXV := hide ((unhide HX7).out (unhide OV5) ne3)
      have HV := hide ((unhide H7).outOther (unhide OV5) (by omega))
      have OV : Hid (Out (fun q => q = s) w V2) := (unhide O7).trans (unhide OV5) (fun q hq e => by omega)
      clear hV2 OV5 HX7 HY7 H7 O7
      generalize hU : ((((V2.setCell _ _).setCell _ _).setCell _ _).setCell _ _).setCell _ _ = U at *
      have XU : Hid (Box U w.heap.size [.int .i64 (1 + v), .bool false, .int .i64 0, .string nm, .int .i64 sz] 29) := hU ▸ (((((unhide HXV).set 0 _).set 1 _).set 2 _).set 3 _).set 4 _
      have OU : Hid (Out (fun q => q = w.heap.size) V2 U) := hU ▸ (((((Out.refl (fun q => q = w.heap.size) V2).one 0 _).one 1 _).one 2 _).one 3 _).one 4 _
      have HS := hide ((unhide HV).outOther (unhide OU) hsl)
      have OF : Hid (Out (fun q => q = s) w U) := (unhide OV).trans (unhide OU) (fun q hq e => by omega)
      clear hU OU
      refine bodyPost_ret (results_cell_row Try.results31 _ U w.heap.size 29 _ (0, 0) _ rfl (unhide XU) Try.underlying29 rfl (by kernel_rfl)) rfl ⟨⟨_, _, _, _, _, rfl, by omega, by omega, unhide HNM, by omega, by omega, by omega, by omega⟩, ⟨_, by omega, unhide HS⟩, unhide OF⟩
    · have t0 := (unhide HY5).cell 0
      have t1 := (unhide HY5).cell 1
      have t2 := (unhide HY5).cell 2
      have t3 := (unhide HY5).cell 3
      have t4 := (unhide HY5).cell 4
      simp only [List.getElem?_cons_zero, List.getElem?_cons_succ] at t0 t1 t2 t3 t4
      have tf0 := (unhide HY5).frozen 0
      have tf1 := (unhide HY5).frozen 1
      have tf2 := (unhide HY5).frozen 2
      have tf3 := (unhide HY5).frozen 3
      have tf4 := (unhide HY5).frozen 4
      have q0 := (unhide HX5).cell 0
      have q1 := (unhide HX5).cell 1
      have q2 := (unhide HX5).cell 2
      have q3 := (unhide HX5).cell 3
      have q4 := (unhide HX5).cell 4
      simp only [List.getElem?_cons_zero, List.getElem?_cons_succ] at q0 q1 q2 q3 q4
      have qf0 := (unhide HX5).frozen 0
      have qf1 := (unhide HX5).frozen 1
      have qf2 := (unhide HX5).frozen 2
      have qf3 := (unhide HX5).frozen 3
      have qf4 := (unhide HX5).frozen 4
      go_wp2_with fail
      clear t0 t1 t2 t3 t4 tf0 tf1 tf2 tf3 tf4 q0 q1 q2 q3 q4 qf0 qf1 qf2 qf3 qf4
      generalize hV : (w5.setCell ⟨w3.heap.size, 2, none⟩ (.int .i64 pa)).setCell ⟨w3.heap.size, 2, none⟩ (.int .i64 0) = V at *
      have OV5 : Hid (Out (fun q => q = w3.heap.size) w5 V) := hV ▸ ((Out.refl (fun q => q = w3.heap.size) w5).one 2 _).one 2 _
      have HYV : Hid (Box V w3.heap.size [.int .i64 (1 + v), .bool _, .int .i64 0, .string nm, .int .i64 0] 29) := hV ▸ ((unhide HY5).set 2 _).set 2 _
      have HXV := hide ((unhide HX5).out (unhide OV5) ne3)
      have HV := hide ((unhide H5).outOther (unhide OV5) (by omega))
      have OV : Hid (Out (fun q => q = s) w V) := (unhide O5).trans (unhide OV5) (fun q hq e => by omega)
      have zV : w3.heap.size < V.heap.size := by have := (unhide OV5).size; omega
      clear hV OV5 HX5 HY5 H5 O5
      generalize hU : ((((V.setCell _ _).setCell _ _).setCell _ _).setCell _ _).setCell _ _ = U at *
      have XU : Hid (Box U w.heap.size [.int .i64 (1 + v), .bool true, .int .i64 0, .string nm, .int .i64 0] 29) := hU ▸ (((((unhide HXV).set 0 _).set 1 _).set 2 _).set 3 _).set 4 _
      have OU : Hid (Out (fun q => q = w.heap.size) V U) := hU ▸ (((((Out.refl (fun q => q = w.heap.size) V).one 0 _).one 1 _).one 2 _).one 3 _).one 4 _
      have HS := hide ((unhide HV).outOther (unhide OU) hsl)
      have OF : Hid (Out (fun q => q = s) w U) := (unhide OV).trans (unhide OU) (fun q hq e => by omega)
      clear hU OU
      refine bodyPost_ret (results_cell_row Try.results31 _ U w.heap.size 29 _ (0, 0) _ rfl (unhide XU) Try.underlying29 rfl (by kernel_rfl)) rfl ⟨⟨_, _, _, _, _, rfl, by omega, by omega, unhide HNM, by omega, by omega, by omega, by omega⟩, ⟨_, by omega, unhide HS⟩, unhide OF⟩
  · have hpb : (pa == 1 + v) = false := by simpa using hpe
    clear hpe
    cases d
    · have t0 := (unhide HY5).cell 0
      have t1 := (unhide HY5).cell 1
      have t2 := (unhide HY5).cell 2
      have t3 := (unhide HY5).cell 3
      have t4 := (unhide HY5).cell 4
      simp only [List.getElem?_cons_zero, List.getElem?_cons_succ] at t0 t1 t2 t3 t4
      have tf0 := (unhide HY5).frozen 0
      have tf1 := (unhide HY5).frozen 1
      have tf2 := (unhide HY5).frozen 2
      have tf3 := (unhide HY5).frozen 3
      have tf4 := (unhide HY5).frozen 4
      have q0 := (unhide HX5).cell 0
      have q1 := (unhide HX5).cell 1
      have q2 := (unhide HX5).cell 2
      have q3 := (unhide HX5).cell 3
      have q4 := (unhide HX5).cell 4
      simp only [List.getElem?_cons_zero, List.getElem?_cons_succ] at q0 q1 q2 q3 q4
      have qf0 := (unhide HX5).frozen 0
      have qf1 := (unhide HX5).frozen 1
      have qf2 := (unhide HX5).frozen 2
      have qf3 := (unhide HX5).frozen 3
      have qf4 := (unhide HX5).frozen 4
      go_wp2_with fail
      clear t0 t1 t2 t3 t4 tf0 tf1 tf2 tf3 tf4 q0 q1 q2 q3 q4 qf0 qf1 qf2 qf3 qf4
      generalize hV : w5.setCell ⟨w3.heap.size, 2, none⟩ (.int .i64 pa) = V at *
      have OV5 : Hid (Out (fun q => q = w3.heap.size) w5 V) := hV ▸ (Out.refl (fun q => q = w3.heap.size) w5).one 2 _
      have HYV : Hid (Box V w3.heap.size [.int .i64 (1 + v), .bool _, .int .i64 pa, .string nm, .int .i64 0] 29) := hV ▸ (unhide HY5).set 2 _
      have HXV := hide ((unhide HX5).out (unhide OV5) ne3)
      have HV := hide ((unhide H5).outOther (unhide OV5) (by omega))
      have OV : Hid (Out (fun q => q = s) w V) := (unhide O5).trans (unhide OV5) (fun q hq e => by omega)
      have zV : w3.heap.size < V.heap.size := by have := (unhide OV5).size; omega
      clear hV OV5 HX5 HY5 H5 O5
      refine (next_out s a n c (p + 1 + 1 + 1 + 1) 5 _ (unhide HV) (by omega) (by omega) (by omega)).mono ?_
      rintro r w7 ⟨⟨sz, rfl, sz0, sz1⟩, h7, o7⟩
      have H7 := hide h7
      have HX7 := hide ((unhide HXV).out o7 ns)
      have HY7 := hide ((unhide HYV).out o7 ns3)
      have O7 := hide ((unhide OV).trans o7 (fun _ _ e => e))
      have z7 : w3.heap.size < w7.heap.size := by have := o7.size; omega
      clear h7 o7 HXV HYV OV HV
      have t0 := (unhide HY7).cell 0
      have t1 := (unhide HY7).cell 1
      have t2 := (unhide HY7).cell 2
      have t3 := (unhide HY7).cell 3
      have t4 := (unhide HY7).cell 4
      simp only [List.getElem?_cons_zero, List.getElem?_cons_succ] at t0 t1 t2 t3 t4
      have tf0 := (unhide HY7).frozen 0
      have tf1 := (unhide HY7).frozen 1
      have tf2 := (unhide HY7).frozen 2
      have tf3 := (unhide HY7).frozen 3
      have tf4 := (unhide HY7).frozen 4
      have q0 := (unhide HX7).cell 0
      have q1 := (unhide HX7).cell 1
      have q2 := (unhide HX7).cell 2
      have q3 := (unhide HX7).cell 3
      have q4 := (unhide HX7).cell 4
      simp only [List.getElem?_cons_zero, List.getElem?_cons_succ] at q0 q1 q2 q3 q4
      have qf0 := (unhide HX7).frozen 0
      have qf1 := (unhide HX7).frozen 1
      have qf2 := (unhide HX7).frozen 2
      have qf3 := (unhide HX7).frozen 3
      have qf4 := (unhide HX7).frozen 4
      go_wp2_with fail
      clear t0 t1 t2 t3 t4 tf0 tf1 tf2 tf3 tf4 q0 q1 q2 q3 q4 qf0 qf1 qf2 qf3 qf4
      generalize hV2 : w7.setCell ⟨w3.heap.size, 4, none⟩ (.int .i64 sz) = V2 at *
      have OV5 : Hid (Out (fun q => q = w3.heap.size) w7 V2) := hV2 ▸ (Out.refl (fun q => q = w3.heap.size) w7).one 4 _
      have HXV := hide ((unhide HX7).out (unhide OV5) ne3)
      have HV := hide ((unhide H7).outOther (unhide OV5) (by omega))
      have OV : Hid (Out (fun q => q = s) w V2) := (unhide O7).trans (unhide OV5) (fun q hq e => by omega)
      clear hV2 OV5 HX7 HY7 H7 O7
      generalize hU : ((((V2.setCell _ _).setCell _ _).setCell _ _).setCell _ _).setCell _ _ = U at *
      have XU : Hid (Box U w.heap.size [.int .i64 (1 + v), .bool false, .int .i64 pa, .string nm, .int .i64 sz] 29) := hU ▸ (((((unhide HXV).set 0 _).set 1 _).set 2 _).set 3 _).set 4 _
      have OU : Hid (Out (fun q => q = w.heap.size) V2 U) := hU ▸ (((((Out.refl (fun q => q = w.heap.size) V2).one 0 _).one 1 _).one 2 _).one 3 _).one 4 _
      have HS := hide ((unhide HV).outOther (unhide OU) hsl)
      have OF : Hid (Out (fun q => q = s) w U) := (unhide OV).trans (unhide OU) (fun q hq e => by omega)
      clear hU OU
      refine bodyPost_ret (results_cell_row Try.results31 _ U w.heap.size 29 _ (0, 0) _ rfl (unhide XU) Try.underlying29 rfl (by kernel_rfl)) rfl ⟨⟨_, _, _, _, _, rfl, by omega, by omega, unhide HNM, by omega, by omega, by omega, by omega⟩, ⟨_, by omega, unhide HS⟩, unhide OF⟩
    · have t0 := (unhide HY5).cell 0
      have t1 := (unhide HY5).cell 1
      have t2 := (unhide HY5).cell 2
      have t3 := (unhide HY5).cell 3
      have t4 := (unhide HY5).cell 4
      simp only [List.getElem?_cons_zero, List.getElem?_cons_succ] at t0 t1 t2 t3 t4
      have tf0 := (unhide HY5).frozen 0
      have tf1 := (unhide HY5).frozen 1
      have tf2 := (unhide HY5).frozen 2
      have tf3 := (unhide HY5).frozen 3
      have tf4 := (unhide HY5).frozen 4
      have q0 := (unhide HX5).cell 0
      have q1 := (unhide HX5).cell 1
      have q2 := (unhide HX5).cell 2
      have q3 := (unhide HX5).cell 3
      have q4 := (unhide HX5).cell 4
      simp only [List.getElem?_cons_zero, List.getElem?_cons_succ] at q0 q1 q2 q3 q4
      have qf0 := (unhide HX5).frozen 0
      have qf1 := (unhide HX5).frozen 1
      have qf2 := (unhide HX5).frozen 2
      have qf3 := (unhide HX5).frozen 3
      have qf4 := (unhide HX5).frozen 4
      go_wp2_with fail
      clear t0 t1 t2 t3 t4 tf0 tf1 tf2 tf3 tf4 q0 q1 q2 q3 q4 qf0 qf1 qf2 qf3 qf4
      generalize hV : w5.setCell ⟨w3.heap.size, 2, none⟩ (.int .i64 pa) = V at *
      have OV5 : Hid (Out (fun q => q = w3.heap.size) w5 V) := hV ▸ (Out.refl (fun q => q = w3.heap.size) w5).one 2 _
      have HYV : Hid (Box V w3.heap.size [.int .i64 (1 + v), .bool _, .int .i64 pa, .string nm, .int .i64 0] 29) := hV ▸ (unhide HY5).set 2 _
      have HXV := hide ((unhide HX5).out (unhide OV5) ne3)
      have HV := hide ((unhide H5).outOther (unhide OV5) (by omega))
      have OV : Hid (Out (fun q => q = s) w V) := (unhide O5).trans (unhide OV5) (fun q hq e => by omega)
      have zV : w3.heap.size < V.heap.size := by have := (unhide OV5).size; omega
      clear hV OV5 HX5 HY5 H5 O5
      generalize hU : ((((V.setCell _ _).setCell _ _).setCell _ _).setCell _ _).setCell _ _ = U at *
      have XU : Hid (Box U w.heap.size [.int .i64 (1 + v), .bool true, .int .i64 pa, .string nm, .int .i64 0] 29) := hU ▸ (((((unhide HXV).set 0 _).set 1 _).set 2 _).set 3 _).set 4 _
      have OU : Hid (Out (fun q => q = w.heap.size) V U) := hU ▸ (((((Out.refl (fun q => q = w.heap.size) V).one 0 _).one 1 _).one 2 _).one 3 _).one 4 _
      have HS := hide ((unhide HV).outOther (unhide OU) hsl)
      have OF : Hid (Out (fun q => q = s) w U) := (unhide OV).trans (unhide OU) (fun q hq e => by omega)
      clear hU OU
      refine bodyPost_ret (results_cell_row Try.results31 _ U w.heap.size 29 _ (0, 0) _ rfl (unhide XU) Try.underlying29 rfl (by kernel_rfl)) rfl ⟨⟨_, _, _, _, _, rfl, by omega, by omega, unhide HNM, by omega, by omega, by omega, by omega⟩, ⟨_, by omega, unhide HS⟩, unhide OF⟩
end Go.Proofs.Ytaadbgebcknfkaa
