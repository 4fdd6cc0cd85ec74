/-
  The walk of laws.FnHeads: it returns true, and writes nothing that was there.
-/
import Derived.Test.YtomlllpojpbciaaDrawWordWalk
import Derived.Test.YtomlllpojpbciaaWordHeadWalk
import Derived.Deep.RegionHeld3
namespace Go.Proofs.Ytomlllpojpbciaa
open Go.RowKit

theorem whVal_back {k u i e : Int} (h : headOk k u i e = true) : whVal (headWordI k u i e) = .agg #[.int .i64 0, .int .i64 k, .int .i64 u, .int .i64 i, .int .i64 e] ∧ headWordI k u i e % 4 = k := by
  have hb := headOk_bounds h
  have e1 : headWordI k u i e % 4 = k := by unfold headWordI; omega
  have e2 : headWordI k u i e / 16 % 1000 = u := by unfold headWordI; omega
  have e3 : headWordI k u i e / 4 % 4 = i := by unfold headWordI; omega
  have e4 : headWordI k u i e / 16000 = e := by unfold headWordI; omega
  have e5 : inB (headWordI k u i e) 0 999999999999999 = true := inB_true.2 (by unfold headWordI; omega)
  refine ⟨?_, e1⟩
  have hw : whOk (headWordI k u i e) = true := by rw [whOk, e1, e2, e3, e4, e5, h]; rfl
  rw [whVal, if_pos hw, e1, e2, e3, e4]

theorem hwVal_back {n : Int} (h : whOk n = true) : hwVal (n % 4) (n / 16 % 1000) (n / 4 % 4) (n / 16000) = .agg #[.int .i64 0, .int .i64 n] := by
  have hs := whOk_small h
  simp only [whOk, Bool.and_eq_true] at h
  have e1 : headWordI (n % 4) (n / 16 % 1000) (n / 4 % 4) (n / 16000) = n := by unfold headWordI; omega
  rw [hwVal, headCode_zero h.2, if_pos h.2, e1]

theorem hwVal_facts (k u i e : Int) : ∃ x y : Int, hwVal k u i e = .agg #[.int .i64 x, .int .i64 y] ∧ (x = 0 → whVal y = .agg #[.int .i64 0, .int .i64 k, .int .i64 u, .int .i64 i, .int .i64 e] ∧ y % 4 = k ∧ 0 ≤ y ∧ y ≤ 999999999) := by
  cases h : headOk k u i e
  · exact ⟨3, 0, by rw [hwVal, headCode_three h, if_neg (by rw [h]; decide)], fun h0 => by omega⟩
  · refine ⟨0, headWordI k u i e, by rw [hwVal, headCode_zero h, if_pos h], fun _ => ⟨(whVal_back h).1, (whVal_back h).2, ?_⟩⟩
    have hb := headOk_bounds h
    unfold headWordI
    omega

theorem whVal_facts (v : Int) : ∃ z z1 z2 z3 z4 : Int, whVal v = .agg #[.int .i64 z, .int .i64 z1, .int .i64 z2, .int .i64 z3, .int .i64 z4] ∧ (z = 0 → hwVal z1 z2 z3 z4 = .agg #[.int .i64 0, .int .i64 v]) := by
  cases h : whOk v
  · exact ⟨1, 0, 0, 0, 0, by rw [whVal, if_neg (by rw [h]; decide)], fun h0 => by omega⟩
  · exact ⟨_, _, _, _, _, by rw [whVal, if_pos h], fun _ => hwVal_back h⟩

/-- What is held of the world while a statement's parts are reckoned in whatever order. -/
theorem held_step {W0 w' w1 : World} (h : Below W0.heap.size W0 w') (hb : Below w'.heap.size w' w1) : Below W0.heap.size W0 w1 := h.trans (hb.mono h.size)

theorem specHeadFault_bel (k u i e : Int) (w : World) :
    Calls Try.prog 12 #[.agg #[.int .i64 k, .int .i64 u, .int .i64 i, .int .i64 e]] w fun r w' => r = .returned (.int .i64 (headCode k u i e)) ∧ Below w.heap.size w w' := by
  refine (specHeadFault_any k u i e w).mono ?_
  rintro r w' ⟨rfl, c, t, rfl⟩
  exact ⟨rfl, (Below.refl _ _).alloc (Nat.le_refl _) _⟩

theorem keep11 {W0 w' w1 : World} {b3 b4 : Nat} {k u i e x y : Int} (h3 : b3 < W0.heap.size) (h4 : b4 < W0.heap.size)
    (hS : Below W0.heap.size W0 w' ∧ w'.cell? ⟨b3, 0, none⟩ = some (.int .i64 k) ∧ w'.cell? ⟨b3, 1, none⟩ = some (.int .i64 u) ∧ w'.cell? ⟨b3, 2, none⟩ = some (.int .i64 i) ∧ w'.cell? ⟨b3, 3, none⟩ = some (.int .i64 e) ∧ w'.cell? ⟨b4, 0, none⟩ = some (.int .i64 x) ∧ w'.cell? ⟨b4, 1, none⟩ = some (.int .i64 y)) (hb : Below w'.heap.size w' w1) : Below W0.heap.size W0 w1 ∧ w1.cell? ⟨b3, 0, none⟩ = some (.int .i64 k) ∧ w1.cell? ⟨b3, 1, none⟩ = some (.int .i64 u) ∧ w1.cell? ⟨b3, 2, none⟩ = some (.int .i64 i) ∧ w1.cell? ⟨b3, 3, none⟩ = some (.int .i64 e) ∧ w1.cell? ⟨b4, 0, none⟩ = some (.int .i64 x) ∧ w1.cell? ⟨b4, 1, none⟩ = some (.int .i64 y) := by
  obtain ⟨h, c0, c1, c2, c3, c4, c5⟩ := hS
  have hz := h.size
  have hc := (bcell hb).1
  exact ⟨h.trans (hb.mono h.size), (hc _ _ (by omega)).trans c0, (hc _ _ (by omega)).trans c1, (hc _ _ (by omega)).trans c2, (hc _ _ (by omega)).trans c3, (hc _ _ (by omega)).trans c4, (hc _ _ (by omega)).trans c5⟩

theorem keep7 {W0 w' w1 : World} {b3 b4 b6 : Nat} {k u i e x y z z1 z2 z3 z4 : Int} (h3 : b3 < W0.heap.size) (h4 : b4 < W0.heap.size) (h6 : b6 < W0.heap.size)
    (hS : Below W0.heap.size W0 w' ∧ w'.cell? ⟨b3, 0, none⟩ = some (.int .i64 k) ∧ w'.cell? ⟨b3, 1, none⟩ = some (.int .i64 u) ∧ w'.cell? ⟨b3, 2, none⟩ = some (.int .i64 i) ∧ w'.cell? ⟨b3, 3, none⟩ = some (.int .i64 e) ∧ w'.cell? ⟨b4, 0, none⟩ = some (.int .i64 x) ∧ w'.cell? ⟨b4, 1, none⟩ = some (.int .i64 y) ∧ w'.cell? ⟨b6, 0, none⟩ = some (.int .i64 z) ∧ w'.cell? ⟨b6, 1, none⟩ = some (.int .i64 z1) ∧ w'.cell? ⟨b6, 2, none⟩ = some (.int .i64 z2) ∧ w'.cell? ⟨b6, 3, none⟩ = some (.int .i64 z3) ∧ w'.cell? ⟨b6, 4, none⟩ = some (.int .i64 z4)) (hb : Below w'.heap.size w' w1) : Below W0.heap.size W0 w1 ∧ w1.cell? ⟨b3, 0, none⟩ = some (.int .i64 k) ∧ w1.cell? ⟨b3, 1, none⟩ = some (.int .i64 u) ∧ w1.cell? ⟨b3, 2, none⟩ = some (.int .i64 i) ∧ w1.cell? ⟨b3, 3, none⟩ = some (.int .i64 e) ∧ w1.cell? ⟨b4, 0, none⟩ = some (.int .i64 x) ∧ w1.cell? ⟨b4, 1, none⟩ = some (.int .i64 y) ∧ w1.cell? ⟨b6, 0, none⟩ = some (.int .i64 z) ∧ w1.cell? ⟨b6, 1, none⟩ = some (.int .i64 z1) ∧ w1.cell? ⟨b6, 2, none⟩ = some (.int .i64 z2) ∧ w1.cell? ⟨b6, 3, none⟩ = some (.int .i64 z3) ∧ w1.cell? ⟨b6, 4, none⟩ = some (.int .i64 z4) := by
  obtain ⟨h, c0, c1, c2, c3, c4, c5, c6, c7, c8, c9, c10⟩ := hS
  have hz := h.size
  have hc := (bcell hb).1
  exact ⟨h.trans (hb.mono h.size), (hc _ _ (by omega)).trans c0, (hc _ _ (by omega)).trans c1, (hc _ _ (by omega)).trans c2, (hc _ _ (by omega)).trans c3, (hc _ _ (by omega)).trans c4, (hc _ _ (by omega)).trans c5, (hc _ _ (by omega)).trans c6, (hc _ _ (by omega)).trans c7, (hc _ _ (by omega)).trans c8, (hc _ _ (by omega)).trans c9, (hc _ _ (by omega)).trans c10⟩

set_option maxHeartbeats 2000000 in
theorem fnHeads_no (a : Option Addr) (n c : Nat) (w : World) (hn : ¬ (n : Int) ≤ 1048576) :
    Calls Try.prog 3 #[.slice a n c] w fun r w' => r = .returned (.bool true) ∧ Below w.heap.size w w' := by
  go_enter Try.func3, Try.ntmps3
  go_wp2
  go_ret
  exact ⟨rfl, Below.refl _ _⟩

set_option maxHeartbeats 1000000 in
theorem fnHeads_yes (a : Option Addr) (n c : Nat) (w : World) (h : CodeAt w a n) (hn : n ≤ 1048576) :
    Calls Try.prog 3 #[.slice a n c] w fun r w' => r = .returned (.bool true) ∧ Below w.heap.size w w' := by
  have H := hide h
  have hn' : ¬ (1048576 : Int) < n := by omega
  clear h
  go_enter Try.func3, Try.ntmps3
  go_wp2_with (go_at_call 4; go_in)
  refine (drawHeadWord_any a n c _ (unhide H) hn).mono ?_
  rintro r w1 ⟨⟨k, u, i, e, rfl, hsm⟩, hb1⟩
  clear hsm
  have G1 := hide hb1
  have hz1 := hb1.size
  clear hb1
  obtain ⟨x, y, hv, hx⟩ := hwVal_facts k u i e
  have HV := hide hv
  have HX := hide hx
  clear hv hx
  go_wp2_with fail
  refine (implHeadWord_any k u i e _).mono ?_
  rintro r w2 ⟨rfl, hb2⟩
  rw [unhide HV]
  have hz2 : w1.heap.size < w2.heap.size := by have := hb2.size; simp at this; omega
  have q2 : ∀ j, w2.cell? ⟨w1.heap.size, j, none⟩ = _ := fun j => (bcell hb2).1 _ j (by simp)
  have G2 := hide (below_step ((unhide G1).alloc (by omega) _) hb2 (by simp; omega))
  clear hb2
  go_wp2_with fail
  refine (drawWordHead_any a n c _ ((unhide H).below ((unhide G2).alloc (by omega) _)) hn).mono ?_
  rintro r w3 ⟨⟨v, rfl⟩, hb3⟩
  have hz3 : w2.heap.size < w3.heap.size := by have := hb3.size; simp at this; omega
  have hy3 : w1.heap.size < w3.heap.size := by omega
  have p3 : ∀ j, w3.cell? ⟨w2.heap.size, j, none⟩ = _ := fun j => (bcell hb3).1 _ j (by simp)
  have e3 : ∀ j, ∀ o : Obj, (w2.alloc o).cell? ⟨w1.heap.size, j, none⟩ = w2.cell? ⟨w1.heap.size, j, none⟩ := fun j o => World.cell?_of_block (a := ⟨w1.heap.size, j, none⟩) (Below.heap_alloc w2 o w1.heap.size hz2)
  have q3 : ∀ j, w3.cell? ⟨w1.heap.size, j, none⟩ = _ := fun j => ((bcell hb3).1 _ j (by simp; omega)).trans ((e3 j _).trans (q2 j))
  have G3 := hide (below_step ((unhide G2).alloc (by omega) _) hb3 (by simp; omega))
  clear hb3 q2 e3
  obtain ⟨z, z1, z2, z3, z4, hw, hzz⟩ := whVal_facts v
  have HZ := hide hzz
  clear hzz
  have HW := hide hw
  clear hw
  go_wp2_with fail
  refine (implWordHead_any v _).mono ?_
  rintro r w4 ⟨rfl, hb4⟩
  rw [unhide HW]
  have hz4 : w3.heap.size ≤ w4.heap.size := hb4.size
  have q4 : ∀ j, w4.cell? ⟨w1.heap.size, j, none⟩ = _ := fun j => ((bcell hb4).1 _ j hy3).trans (q3 j)
  have p4 : ∀ j, w4.cell? ⟨w2.heap.size, j, none⟩ = _ := fun j => ((bcell hb4).1 _ j hz3).trans (p3 j)
  have G4 := hide (below_step (unhide G3) hb4 (by have := (unhide G3).size; omega))
  have hx4 : w1.heap.size < w4.heap.size := by omega
  have hy4 : w2.heap.size < w4.heap.size := by omega
  clear hb4 q3 p3
  go_wp2_with fail
  obtain ⟨W0, hW0⟩ : ∃ W0, W0 = w4.alloc (.cells #[.int .i64 z, .int .i64 z1, .int .i64 z2, .int .i64 z3, .int .i64 z4] 32) := ⟨_, rfl⟩
  have hS0 : Below W0.heap.size W0 W0 ∧ W0.cell? ⟨w1.heap.size, 0, none⟩ = some (.int .i64 k) ∧ W0.cell? ⟨w1.heap.size, 1, none⟩ = some (.int .i64 u) ∧ W0.cell? ⟨w1.heap.size, 2, none⟩ = some (.int .i64 i) ∧ W0.cell? ⟨w1.heap.size, 3, none⟩ = some (.int .i64 e) ∧ W0.cell? ⟨w2.heap.size, 0, none⟩ = some (.int .i64 x) ∧ W0.cell? ⟨w2.heap.size, 1, none⟩ = some (.int .i64 y) ∧ W0.cell? ⟨w4.heap.size, 0, none⟩ = some (.int .i64 z) ∧ W0.cell? ⟨w4.heap.size, 1, none⟩ = some (.int .i64 z1) ∧ W0.cell? ⟨w4.heap.size, 2, none⟩ = some (.int .i64 z2) ∧ W0.cell? ⟨w4.heap.size, 3, none⟩ = some (.int .i64 z3) ∧ W0.cell? ⟨w4.heap.size, 4, none⟩ = some (.int .i64 z4) := by
    subst hW0
    refine ⟨Below.refl _ _, ?_, ?_, ?_, ?_, ?_, ?_, ?_, ?_, ?_, ?_, ?_⟩ <;> go_simp
  have m3 : w1.heap.size < W0.heap.size := by rw [hW0]; simp; omega
  have m4 : w2.heap.size < W0.heap.size := by rw [hW0]; simp; omega
  have m6 : w4.heap.size < W0.heap.size := by rw [hW0]; simp
  have G0 : Hid (Below w.heap.size w W0) := by rw [hW0]; exact (unhide G4).alloc (by have := (unhide G4).size; omega) _
  have mw : w.heap.size ≤ W0.heap.size := by omega
  rw [← hW0]
  clear q4 p4 hW0 G1 G2 G3 G4 hz1 hz2 hz3 hy3 hz4 hx4 hy4
  generalize w1.heap.size = b3 at *
  generalize w2.heap.size = b4 at *
  generalize w4.heap.size = b6 at *
  have hD : (fun w' => Below W0.heap.size W0 w' ∧ w'.cell? ⟨b3, 0, none⟩ = some (.int .i64 k) ∧ w'.cell? ⟨b3, 1, none⟩ = some (.int .i64 u) ∧ w'.cell? ⟨b3, 2, none⟩ = some (.int .i64 i) ∧ w'.cell? ⟨b3, 3, none⟩ = some (.int .i64 e) ∧ w'.cell? ⟨b4, 0, none⟩ = some (.int .i64 x) ∧ w'.cell? ⟨b4, 1, none⟩ = some (.int .i64 y) ∧ w'.cell? ⟨b6, 0, none⟩ = some (.int .i64 z) ∧ w'.cell? ⟨b6, 1, none⟩ = some (.int .i64 z1) ∧ w'.cell? ⟨b6, 2, none⟩ = some (.int .i64 z2) ∧ w'.cell? ⟨b6, 3, none⟩ = some (.int .i64 z3) ∧ w'.cell? ⟨b6, 4, none⟩ = some (.int .i64 z4)) W0.drew := ⟨hS0.1.drew, hS0.2⟩
  have n1 := int_neq_self x
  go_region_held3 (fun w' => Below W0.heap.size W0 w' ∧ w'.cell? ⟨b3, 0, none⟩ = some (.int .i64 k) ∧ w'.cell? ⟨b3, 1, none⟩ = some (.int .i64 u) ∧ w'.cell? ⟨b3, 2, none⟩ = some (.int .i64 i) ∧ w'.cell? ⟨b3, 3, none⟩ = some (.int .i64 e) ∧ w'.cell? ⟨b4, 0, none⟩ = some (.int .i64 x) ∧ w'.cell? ⟨b4, 1, none⟩ = some (.int .i64 y) ∧ w'.cell? ⟨b6, 0, none⟩ = some (.int .i64 z) ∧ w'.cell? ⟨b6, 1, none⟩ = some (.int .i64 z1) ∧ w'.cell? ⟨b6, 2, none⟩ = some (.int .i64 z2) ∧ w'.cell? ⟨b6, 3, none⟩ = some (.int .i64 z3) ∧ w'.cell? ⟨b6, 4, none⟩ = some (.int .i64 z4)) (first | exact hD | exact keep7 m3 m4 m6 (by assumption) (by assumption))
    (first
      | (go_at_call 9; refine (specHeadWord_any _ _ _ _ _).mono ?_; rintro r w5 ⟨rfl, hb5⟩; rw [unhide HV])
      | (go_at_call 10; refine (specWordHead_any _ _).mono ?_; rintro r w5 ⟨rfl, hb5⟩; rw [unhide HW])
      | (go_at_call 11; refine (implHeadFault_any _ _ _ _ _).mono ?_; rintro r w5 ⟨rfl, hb5⟩)
      | (go_at_call 12; refine (specHeadFault_bel _ _ _ _ _).mono ?_; rintro r w5 ⟨rfl, hb5⟩))
  rename_i hS9
  have g9 : Below w.heap.size w w5 := (unhide G0).trans (hS9.1.mono mw)
  have h9 : W0.heap.size ≤ w5.heap.size := hS9.1.size
  have G9 := hide g9
  have n3 : b3 < w5.heap.size := by omega
  have n4 : b4 < w5.heap.size := by omega
  obtain ⟨_, d0, d1, d2, d3, d4, d5, d6, d7, d8, d9, d10⟩ := hS9
  clear hS0 hD g9
  clear hb5
  by_cases hz0 : z = 0
  · have hh := unhide HZ hz0
    have HH := hide hh
    have t0 : (z == 0) = true := by simpa using hz0
    have tv := int_neq_self v
    clear hh hz0 HZ
    go_wp2_with fail
    refine (implHeadWord_any _ _ _ _ _).mono ?_
    rintro r wT ⟨rfl, hbT⟩
    rw [unhide HH]
    have hcT := (bcell hbT).1
    have hzT : w5.heap.size ≤ wT.heap.size := hbT.size
    have GT := hide (below_step (unhide G9) hbT (by omega))
    replace d0 := (hcT _ _ n3).trans d0
    replace d1 := (hcT _ _ n3).trans d1
    replace d2 := (hcT _ _ n3).trans d2
    replace d3 := (hcT _ _ n3).trans d3
    replace d4 := (hcT _ _ n4).trans d4
    replace d5 := (hcT _ _ n4).trans d5
    replace n3 : b3 < wT.heap.size := by omega
    replace n4 : b4 < wT.heap.size := by omega
    clear d6 d7 d8 d9 d10 hcT hbT
    go_wp2_with fail
    have hS1 : Below wT.heap.size wT wT ∧ wT.cell? ⟨b3, 0, none⟩ = some (.int .i64 k) ∧ wT.cell? ⟨b3, 1, none⟩ = some (.int .i64 u) ∧ wT.cell? ⟨b3, 2, none⟩ = some (.int .i64 i) ∧ wT.cell? ⟨b3, 3, none⟩ = some (.int .i64 e) ∧ wT.cell? ⟨b4, 0, none⟩ = some (.int .i64 x) ∧ wT.cell? ⟨b4, 1, none⟩ = some (.int .i64 y) := ⟨Below.refl _ _, d0, d1, d2, d3, d4, d5⟩
    have hD1 : (fun w' => Below wT.heap.size wT w' ∧ w'.cell? ⟨b3, 0, none⟩ = some (.int .i64 k) ∧ w'.cell? ⟨b3, 1, none⟩ = some (.int .i64 u) ∧ w'.cell? ⟨b3, 2, none⟩ = some (.int .i64 i) ∧ w'.cell? ⟨b3, 3, none⟩ = some (.int .i64 e) ∧ w'.cell? ⟨b4, 0, none⟩ = some (.int .i64 x) ∧ w'.cell? ⟨b4, 1, none⟩ = some (.int .i64 y)) wT.drew := ⟨hS1.1.drew, hS1.2⟩
    clear hS1
    by_cases hx0 : x = 0
    · obtain ⟨y0, y1, y2, y3⟩ := unhide HX hx0
      have HY := hide y0
      have HY1 := hide y1
      have t1 : (x != 0) = false := by simpa using hx0
      have t3 : (y.tmod 4 == k) = true := by rw [Int.tmod_eq_emod_of_nonneg y2]; simpa using y1
      have sk := beq_self_eq_true k
      clear y0 y1 hx0
      go_region_held3 (fun w' => Below wT.heap.size wT w' ∧ w'.cell? ⟨b3, 0, none⟩ = some (.int .i64 k) ∧ w'.cell? ⟨b3, 1, none⟩ = some (.int .i64 u) ∧ w'.cell? ⟨b3, 2, none⟩ = some (.int .i64 i) ∧ w'.cell? ⟨b3, 3, none⟩ = some (.int .i64 e) ∧ w'.cell? ⟨b4, 0, none⟩ = some (.int .i64 x) ∧ w'.cell? ⟨b4, 1, none⟩ = some (.int .i64 y)) (first | exact hD1 | exact keep11 n3 n4 (by assumption) (by assumption))
        (first | (go_at_call 8; refine (implWordHead_any _ _).mono ?_; rintro r w9 ⟨rfl, hb10⟩; rw [unhide HY]))
      go_wp2_with fail
      go_ret
      rename_i hSF
      exact ⟨rfl, (unhide GT).trans (hSF.1.mono (by have := (unhide GT).size; omega))⟩
    · have t1 : (x != 0) = true := by simpa using hx0
      clear hx0
      clear hD1
      go_quiet (fail)
      go_wp2_with fail
      go_ret
      exact ⟨rfl, below_drewN (unhide GT) _⟩
  · have t0 : (z == 0) = false := by simpa using hz0
    clear hz0 HZ d7 d8 d9 d10
    go_wp2_with fail
    clear d6
    have hS1 : Below w5.heap.size w5 w5 ∧ w5.cell? ⟨b3, 0, none⟩ = some (.int .i64 k) ∧ w5.cell? ⟨b3, 1, none⟩ = some (.int .i64 u) ∧ w5.cell? ⟨b3, 2, none⟩ = some (.int .i64 i) ∧ w5.cell? ⟨b3, 3, none⟩ = some (.int .i64 e) ∧ w5.cell? ⟨b4, 0, none⟩ = some (.int .i64 x) ∧ w5.cell? ⟨b4, 1, none⟩ = some (.int .i64 y) := ⟨Below.refl _ _, d0, d1, d2, d3, d4, d5⟩
    have hD1 : (fun w' => Below w5.heap.size w5 w' ∧ w'.cell? ⟨b3, 0, none⟩ = some (.int .i64 k) ∧ w'.cell? ⟨b3, 1, none⟩ = some (.int .i64 u) ∧ w'.cell? ⟨b3, 2, none⟩ = some (.int .i64 i) ∧ w'.cell? ⟨b3, 3, none⟩ = some (.int .i64 e) ∧ w'.cell? ⟨b4, 0, none⟩ = some (.int .i64 x) ∧ w'.cell? ⟨b4, 1, none⟩ = some (.int .i64 y)) w5.drew := ⟨hS1.1.drew, hS1.2⟩
    clear hS1
    by_cases hx0 : x = 0
    · obtain ⟨y0, y1, y2, y3⟩ := unhide HX hx0
      have HY := hide y0
      have HY1 := hide y1
      have t1 : (x != 0) = false := by simpa using hx0
      have t3 : (y.tmod 4 == k) = true := by rw [Int.tmod_eq_emod_of_nonneg y2]; simpa using y1
      have sk := beq_self_eq_true k
      clear y0 y1 hx0
      go_region_held3 (fun w' => Below w5.heap.size w5 w' ∧ w'.cell? ⟨b3, 0, none⟩ = some (.int .i64 k) ∧ w'.cell? ⟨b3, 1, none⟩ = some (.int .i64 u) ∧ w'.cell? ⟨b3, 2, none⟩ = some (.int .i64 i) ∧ w'.cell? ⟨b3, 3, none⟩ = some (.int .i64 e) ∧ w'.cell? ⟨b4, 0, none⟩ = some (.int .i64 x) ∧ w'.cell? ⟨b4, 1, none⟩ = some (.int .i64 y)) (first | exact hD1 | exact keep11 n3 n4 (by assumption) (by assumption))
        (first | (go_at_call 8; refine (implWordHead_any _ _).mono ?_; rintro r w9 ⟨rfl, hb10⟩; rw [unhide HY]))
      go_wp2_with fail
      go_ret
      rename_i hSF
      exact ⟨rfl, (unhide G9).trans (hSF.1.mono (by have := (unhide G9).size; omega))⟩
    · have t1 : (x != 0) = true := by simpa using hx0
      clear hx0
      clear hD1
      go_quiet (fail)
      go_wp2_with fail
      go_ret
      exact ⟨rfl, below_drewN (unhide G9) _⟩

theorem codeAt_row {w : World} {a : Option Addr} {len cap : Nat} {zs : List Int}
    (h : (a = none ∧ len = 0 ∧ cap = 0 ∧ zs = []) ∨ ∃ x, a = some x ∧ len ≤ cap ∧ cap ≤ maxLen ∧ zs.length = cap ∧ (∀ i, i < zs.length → w.cell? (x.add i) = some (.int .u8 (zs.getD i 0))) ∧ ∀ n ∈ zs, (Lit.int .u8 n).wf = true) : CodeAt w a len := by
  rcases h with ⟨rfl, rfl, rfl, rfl⟩ | ⟨x, rfl, hl, hm, hz, hc, hw⟩
  · exact .inl rfl
  · by_cases h0 : len = 0
    · exact .inl h0
    · right
      have c0 := hc 0 (by omega)
      obtain ⟨b, off, spot⟩ := x
      have hspot : spot = none := by simpa [Addr.add] using World.cell?_spot c0
      subst hspot
      have hlt : b < w.heap.size := by
        have c0' : w.cell? ⟨b, off, none⟩ = some (.int .u8 (zs.getD 0 0)) := by simpa [Addr.add] using c0
        unfold World.cell? at c0'
        by_cases hb : b < w.heap.size
        · exact hb
        · rw [Array.getElem?_eq_none (by show w.heap.size ≤ b; omega)] at c0'
          simp at c0'
      refine ⟨b, off, rfl, hlt, fun i hi => ⟨zs.getD i 0, ?_⟩⟩
      have hi' : i < zs.length := by omega
      have := hc i hi'
      rw [Go.WideShapes.add_plain] at this
      have hb := hw (zs.getD i 0) (by simp [List.getD_eq_getElem?_getD, List.getElem?_eq_getElem hi'])
      have hb2 : 0 ≤ zs.getD i 0 ∧ zs.getD i 0 ≤ 255 := by simpa [Lit.wf, IntKind.min, IntKind.max, IntKind.signed, IntKind.bits] using hb
      exact ⟨hb2.1, hb2.2, this⟩
end Go.Proofs.Ytomlllpojpbciaa

namespace Go.Proofs.Ytomlllpojpbciaa.fnHeads
open Go.RowKit
/-- What the walk is told of a slice of integers that came in. -/
def IsRow (k : IntKind) (w : World) (a : Option Addr) (len cap : Nat) (zs : List Int) : Prop :=
  (a = none ∧ len = 0 ∧ cap = 0 ∧ zs = []) ∨
  ∃ x, a = some x ∧ len ≤ cap ∧ cap ≤ maxLen ∧ zs.length = cap ∧ (∀ i, i < zs.length → w.cell? (x.add i) = some (.int k (zs.getD i 0))) ∧ ∀ n ∈ zs, (Lit.int k n).wf = true

theorem walk (a : Option Addr) (len cap : Nat) (zs : List Int) (w : World) (w0 : IsRow .u8 w a len cap zs) :
    Calls Try.prog 3 #[.slice a len cap] w fun r w' => r = .returned (.bool true) ∧ Below w.heap.size w w' := by
  by_cases hn : len ≤ 1048576
  · exact fnHeads_yes a len cap w (codeAt_row w0) hn
  · exact fnHeads_no a len cap w (by omega)
end Go.Proofs.Ytomlllpojpbciaa.fnHeads
