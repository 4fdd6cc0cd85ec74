/-
  The laws' draws of heads and of their words.
-/
import Derived.Test.YtomlllpojpbciaaDrawHeadWalk
import Derived.Test.YtomlllpojpbciaaHeadWordWalk
namespace Go.Proofs.Ytomlllpojpbciaa
open Go.RowKit

set_option maxHeartbeats 1000000 in
theorem drawHeadFault_any (a : Option Addr) (n c : Nat) (w : World) (h : CodeAt w a n) (hn : n ≤ 1048576) :
    Calls Try.prog 13 #[.slice a n c] w fun r w' => (∃ k u i e : Int, r = .returned (.agg #[.int .i64 k, .int .i64 u, .int .i64 i, .int .i64 e]) ∧ smallHead k u i e) ∧ Below w.heap.size w w' := by
  have H := hide h
  clear h
  go_enter Try.func13, Try.ntmps13
  go_wp2_with fail
  refine (l1Source_any a n c _).mono ?_
  rintro r w1 ⟨rfl, rfl⟩
  have hs1 := srcAt_new ((unhide H).below ((Below.refl _ _).alloc (Nat.le_refl _) (.cells #[.int .i64 0, .int .i64 0, .int .i64 0, .int .i64 0] 25))) hn c 0 54
  rw [World.size_alloc] at hs1
  have H1 := hide hs1
  clear hs1 H
  go_wp2_with fail
  refine (l1DrawHead_any (w.heap.size + 1) a n c 0 _ (unhide H1) (by omega)).mono ?_
  rintro r w3 ⟨⟨k, u, i, e, rfl, hsm⟩, ⟨q, hq, hs3⟩, hb3⟩
  unfold smallHead at hsm
  obtain ⟨⟨k0, k1⟩, ⟨u0, u1⟩, ⟨i0, i1⟩, ⟨e0, e1⟩⟩ := hsm
  have hz3 : w.heap.size + 1 < w3.heap.size := by have := hb3.size; simp at this; omega
  have hne3 : ¬ w.heap.size = w3.heap.size := by omega
  have q3 : ∀ j, w3.cell? ⟨w.heap.size, j, none⟩ = _ := fun j => hb3.cell (p := ⟨w.heap.size, j, none⟩) (by show w.heap.size < w.heap.size + 1; omega)
  have f3 : ∀ j, w3.frozen? ⟨w.heap.size, j, none⟩ = _ := fun j => hb3.frozen (p := ⟨w.heap.size, j, none⟩) (by show w.heap.size < w.heap.size + 1; omega)
  have g3 : Below w.heap.size w w3 := (((Below.refl _ _).alloc (Nat.le_refl _) _).alloc (by simp) _).trans (hb3.mono (by omega))
  have H3 := hide hs3
  have G3 := hide g3
  clear hs3 hb3 g3 H1
  go_wp2_with fail
  refine (l1Next_src (w.heap.size + 1) a n c q 10 _ ((unhide H3).alloc _) (by omega) (by omega) (by omega)).mono ?_
  rintro r w4 ⟨⟨v, rfl, v0, v1⟩, hs4, ho4⟩
  have hz4 : w4.heap.size = w3.heap.size + 1 := by rw [ho4.size]; simp
  have q4 : ∀ j, w4.cell? ⟨w.heap.size, j, none⟩ = _ := fun j => (onlyAlloc_cell ho4 (by omega) (by omega) j).trans (q3 j)
  have f4 : ∀ j, w4.frozen? ⟨w.heap.size, j, none⟩ = _ := fun j => (onlyAlloc_frozen ho4 (by omega) (by omega) j).trans (f3 j)
  have p4 : ∀ j, w4.cell? ⟨w3.heap.size, j, none⟩ = _ := fun j => ho4.cell (by omega) j
  have r4 : ∀ j, w4.frozen? ⟨w3.heap.size, j, none⟩ = _ := fun j => ho4.frozen (by omega) j
  have g4 : Below w.heap.size w w4 := ((unhide G3).alloc (by omega) _).trans (ho4.below (by omega))
  have H4 := hide hs4
  have G4 := hide g4
  clear hs4 ho4 g4 q3 f3 H3 G3
  by_cases hv0 : v = 0
  · subst hv0
    go_wp2_with fail
    refine (l1Pick_any (w.heap.size + 1) a n c (q + 1) (fun v => -1 ≤ v ∧ v ≤ 4) (w3.heap.size + 1) 3 3 _ ((unhide H4).alloc _) (by omega) (by omega) (by omega) (offer_new _ _ _ _ _ _ hz4 rfl (by simp)) (by omega)).mono ?_
    rintro r w5 ⟨⟨x, hx, rfl⟩, hs5, ho5⟩
    have hz5 : w5.heap.size = w3.heap.size + 2 := by rw [ho5.size]; simp [hz4]
    have q5 : ∀ j, w5.cell? ⟨w.heap.size, j, none⟩ = _ := fun j => (onlyAlloc_cell ho5 (by omega) (by omega) j).trans (q4 j)
    have f5 : ∀ j, w5.frozen? ⟨w.heap.size, j, none⟩ = _ := fun j => (onlyAlloc_frozen ho5 (by omega) (by omega) j).trans (f4 j)
    have p5 : ∀ j, w5.cell? ⟨w3.heap.size, j, none⟩ = _ := fun j => (onlyAlloc_cell ho5 (by omega) (by omega) j).trans (p4 j)
    have r5 : ∀ j, w5.frozen? ⟨w3.heap.size, j, none⟩ = _ := fun j => (onlyAlloc_frozen ho5 (by omega) (by omega) j).trans (r4 j)
    have g5 : Below w.heap.size w w5 := ((unhide G4).alloc (by omega) _).trans (ho5.below (by omega))
    have G5 := hide g5
    clear hs5 ho5 g5 q4 f4 p4 r4
    go_wp2_with fail
    refine bodyPost_ret (v := .agg #[.int .i64 x, .int .i64 u, .int .i64 i, .int .i64 e]) (by simp [results, Try.results13, go_sem, q5]) rfl ⟨⟨_, _, _, _, rfl, by unfold smallHead; omega⟩, ?_⟩
    repeat (first | (with_reducible exact unhide G5) | (with_reducible exact Below.refl _ _) | (with_reducible refine Below.alloc ?_ ?_ _; rotate_left; first | omega | (simp <;> omega)) | (with_reducible refine Below.setCell ?_ ?_ _; rotate_left; first | omega | (simp <;> omega)) | with_reducible refine Below.drew ?_ | with_reducible refine below_drewN ?_ _)
  by_cases hv1 : v = 1
  · subst hv1
    go_wp2_with fail
    refine (l1Pick_any (w.heap.size + 1) a n c (q + 1) (fun v => 0 ≤ v ∧ v ≤ 1000) (w3.heap.size + 1) 2 2 _ ((unhide H4).alloc _) (by omega) (by omega) (by omega) (offer_new _ _ _ _ _ _ hz4 rfl (by simp)) (by omega)).mono ?_
    rintro r w5 ⟨⟨x, hx, rfl⟩, hs5, ho5⟩
    have hz5 : w5.heap.size = w3.heap.size + 2 := by rw [ho5.size]; simp [hz4]
    have q5 : ∀ j, w5.cell? ⟨w.heap.size, j, none⟩ = _ := fun j => (onlyAlloc_cell ho5 (by omega) (by omega) j).trans (q4 j)
    have f5 : ∀ j, w5.frozen? ⟨w.heap.size, j, none⟩ = _ := fun j => (onlyAlloc_frozen ho5 (by omega) (by omega) j).trans (f4 j)
    have p5 : ∀ j, w5.cell? ⟨w3.heap.size, j, none⟩ = _ := fun j => (onlyAlloc_cell ho5 (by omega) (by omega) j).trans (p4 j)
    have r5 : ∀ j, w5.frozen? ⟨w3.heap.size, j, none⟩ = _ := fun j => (onlyAlloc_frozen ho5 (by omega) (by omega) j).trans (r4 j)
    have g5 : Below w.heap.size w w5 := ((unhide G4).alloc (by omega) _).trans (ho5.below (by omega))
    have G5 := hide g5
    clear hs5 ho5 g5 q4 f4 p4 r4
    go_wp2_with fail
    refine bodyPost_ret (v := .agg #[.int .i64 k, .int .i64 x, .int .i64 i, .int .i64 e]) (by simp [results, Try.results13, go_sem, q5]) rfl ⟨⟨_, _, _, _, rfl, by unfold smallHead; omega⟩, ?_⟩
    repeat (first | (with_reducible exact unhide G5) | (with_reducible exact Below.refl _ _) | (with_reducible refine Below.alloc ?_ ?_ _; rotate_left; first | omega | (simp <;> omega)) | (with_reducible refine Below.setCell ?_ ?_ _; rotate_left; first | omega | (simp <;> omega)) | with_reducible refine Below.drew ?_ | with_reducible refine below_drewN ?_ _)
  by_cases hv2 : v = 2
  · subst hv2
    go_wp2_with fail
    refine (l1Pick_any (w.heap.size + 1) a n c (q + 1) (fun v => -1 ≤ v ∧ v ≤ 4) (w3.heap.size + 1) 3 3 _ ((unhide H4).alloc _) (by omega) (by omega) (by omega) (offer_new _ _ _ _ _ _ hz4 rfl (by simp)) (by omega)).mono ?_
    rintro r w5 ⟨⟨x, hx, rfl⟩, hs5, ho5⟩
    have hz5 : w5.heap.size = w3.heap.size + 2 := by rw [ho5.size]; simp [hz4]
    have q5 : ∀ j, w5.cell? ⟨w.heap.size, j, none⟩ = _ := fun j => (onlyAlloc_cell ho5 (by omega) (by omega) j).trans (q4 j)
    have f5 : ∀ j, w5.frozen? ⟨w.heap.size, j, none⟩ = _ := fun j => (onlyAlloc_frozen ho5 (by omega) (by omega) j).trans (f4 j)
    have p5 : ∀ j, w5.cell? ⟨w3.heap.size, j, none⟩ = _ := fun j => (onlyAlloc_cell ho5 (by omega) (by omega) j).trans (p4 j)
    have r5 : ∀ j, w5.frozen? ⟨w3.heap.size, j, none⟩ = _ := fun j => (onlyAlloc_frozen ho5 (by omega) (by omega) j).trans (r4 j)
    have g5 : Below w.heap.size w w5 := ((unhide G4).alloc (by omega) _).trans (ho5.below (by omega))
    have G5 := hide g5
    clear hs5 ho5 g5 q4 f4 p4 r4
    go_wp2_with fail
    refine bodyPost_ret (v := .agg #[.int .i64 k, .int .i64 u, .int .i64 x, .int .i64 e]) (by simp [results, Try.results13, go_sem, q5]) rfl ⟨⟨_, _, _, _, rfl, by unfold smallHead; omega⟩, ?_⟩
    repeat (first | (with_reducible exact unhide G5) | (with_reducible exact Below.refl _ _) | (with_reducible refine Below.alloc ?_ ?_ _; rotate_left; first | omega | (simp <;> omega)) | (with_reducible refine Below.setCell ?_ ?_ _; rotate_left; first | omega | (simp <;> omega)) | with_reducible refine Below.drew ?_ | with_reducible refine below_drewN ?_ _)
  by_cases hv3 : v = 3
  · subst hv3
    go_wp2_with fail
    refine (l1Pick_any (w.heap.size + 1) a n c (q + 1) (fun v => 0 ≤ v ∧ v ≤ 10000) (w3.heap.size + 1) 2 2 _ ((unhide H4).alloc _) (by omega) (by omega) (by omega) (offer_new _ _ _ _ _ _ hz4 rfl (by simp)) (by omega)).mono ?_
    rintro r w5 ⟨⟨x, hx, rfl⟩, hs5, ho5⟩
    have hz5 : w5.heap.size = w3.heap.size + 2 := by rw [ho5.size]; simp [hz4]
    have q5 : ∀ j, w5.cell? ⟨w.heap.size, j, none⟩ = _ := fun j => (onlyAlloc_cell ho5 (by omega) (by omega) j).trans (q4 j)
    have f5 : ∀ j, w5.frozen? ⟨w.heap.size, j, none⟩ = _ := fun j => (onlyAlloc_frozen ho5 (by omega) (by omega) j).trans (f4 j)
    have p5 : ∀ j, w5.cell? ⟨w3.heap.size, j, none⟩ = _ := fun j => (onlyAlloc_cell ho5 (by omega) (by omega) j).trans (p4 j)
    have r5 : ∀ j, w5.frozen? ⟨w3.heap.size, j, none⟩ = _ := fun j => (onlyAlloc_frozen ho5 (by omega) (by omega) j).trans (r4 j)
    have g5 : Below w.heap.size w w5 := ((unhide G4).alloc (by omega) _).trans (ho5.below (by omega))
    have G5 := hide g5
    clear hs5 ho5 g5 q4 f4 p4 r4
    go_wp2_with fail
    refine bodyPost_ret (v := .agg #[.int .i64 k, .int .i64 u, .int .i64 i, .int .i64 x]) (by simp [results, Try.results13, go_sem, q5]) rfl ⟨⟨_, _, _, _, rfl, by unfold smallHead; omega⟩, ?_⟩
    repeat (first | (with_reducible exact unhide G5) | (with_reducible exact Below.refl _ _) | (with_reducible refine Below.alloc ?_ ?_ _; rotate_left; first | omega | (simp <;> omega)) | (with_reducible refine Below.setCell ?_ ?_ _; rotate_left; first | omega | (simp <;> omega)) | with_reducible refine Below.drew ?_ | with_reducible refine below_drewN ?_ _)
  have c0 : (v == 0) = false := by simpa using hv0
  have c1 : (v == 1) = false := by simpa using hv1
  have c2 : (v == 2) = false := by simpa using hv2
  have c3 : (v == 3) = false := by simpa using hv3
  clear hv0 hv1 hv2 hv3
  by_cases hv4 : v = 4
  · have c4 : (v == 4) = true := by simpa using hv4
    clear hv4
    go_wp2_with fail
    refine bodyPost_ret (v := .agg #[.int .i64 0, .int .i64 0, .int .i64 0, .int .i64 0]) (by simp [results, Try.results13, go_sem, q4]) rfl ⟨⟨_, _, _, _, rfl, by unfold smallHead; omega⟩, ?_⟩
    repeat (first | (with_reducible exact unhide G4) | (with_reducible exact Below.refl _ _) | (with_reducible refine Below.alloc ?_ ?_ _; rotate_left; first | omega | (simp <;> omega)) | (with_reducible refine Below.setCell ?_ ?_ _; rotate_left; first | omega | (simp <;> omega)) | with_reducible refine Below.drew ?_ | with_reducible refine below_drewN ?_ _)
  · have c4 : (v == 4) = false := by simpa using hv4
    clear hv4
    go_wp2_with fail
    refine bodyPost_ret (v := .agg #[.int .i64 k, .int .i64 u, .int .i64 i, .int .i64 e]) (by simp [results, Try.results13, go_sem, q4]) rfl ⟨⟨_, _, _, _, rfl, by unfold smallHead; omega⟩, ?_⟩
    repeat (first | (with_reducible exact unhide G4) | (with_reducible exact Below.refl _ _) | (with_reducible refine Below.alloc ?_ ?_ _; rotate_left; first | omega | (simp <;> omega)) | (with_reducible refine Below.setCell ?_ ?_ _; rotate_left; first | omega | (simp <;> omega)) | with_reducible refine Below.drew ?_ | with_reducible refine below_drewN ?_ _)

set_option maxHeartbeats 1000000 in
theorem drawHeadWord_any (a : Option Addr) (n c : Nat) (w : World) (h : CodeAt w a n) (hn : n ≤ 1048576) :
    Calls Try.prog 5 #[.slice a n c] w fun r w' => (∃ k u i e : Int, r = .returned (.agg #[.int .i64 k, .int .i64 u, .int .i64 i, .int .i64 e]) ∧ smallHead k u i e) ∧ Below w.heap.size w w' := by
  have H := hide h
  clear h
  go_enter Try.func5, Try.ntmps5
  go_wp2_with fail
  refine (drawHeadFault_any a n c _ ((unhide H).below ((Below.refl _ _).alloc (Nat.le_refl _) _)) hn).mono ?_
  rintro r w1 ⟨⟨k, u, i, e, rfl, hsm⟩, hb1⟩
  have hz1 : w.heap.size < w1.heap.size := by have := hb1.size; simp at this; omega
  have q1 : ∀ j, w1.cell? ⟨w.heap.size, j, none⟩ = _ := fun j => (bcell hb1).1 _ j (by simp)
  have f1 : ∀ j, w1.frozen? ⟨w.heap.size, j, none⟩ = _ := fun j => (bcell hb1).2 _ j (by simp)
  have G1 := hide (below_step ((Below.refl _ _).alloc (Nat.le_refl _) _) hb1 (by simp))
  have HM := hide hsm
  clear hb1 hsm
  go_wp2_with fail
  refine bodyPost_ret (v := .agg #[.int .i64 k, .int .i64 u, .int .i64 i, .int .i64 e]) (by simp [results, Try.results5, go_sem, q1]) rfl ⟨⟨k, u, i, e, rfl, unhide HM⟩, ?_⟩
  repeat (first | (with_reducible exact unhide G1) | (with_reducible exact Below.refl _ _) | (with_reducible refine Below.alloc ?_ ?_ _; rotate_left; first | omega | (simp <;> omega)) | (with_reducible refine Below.setCell ?_ ?_ _; rotate_left; first | omega | (simp <;> omega)) | with_reducible refine Below.drew ?_ | with_reducible refine below_drewN ?_ _)

set_option maxHeartbeats 1000000 in
theorem l1HeadWord_small (b : Nat) (k u i e : Int) (w : World) (hsm : smallHead k u i e)
    (c0 : w.cell? ⟨b, 0, none⟩ = some (.int .i64 k)) (c1 : w.cell? ⟨b, 1, none⟩ = some (.int .i64 u)) (c2 : w.cell? ⟨b, 2, none⟩ = some (.int .i64 i)) (c3 : w.cell? ⟨b, 3, none⟩ = some (.int .i64 e)) :
    Calls Try.prog 17 #[.pointer (some ⟨b, 0, none⟩)] w fun r w' => r = .returned (.int .i64 (headWordI k u i e)) ∧ ∃ n, w' = w.drewN n := by
  unfold smallHead at hsm
  obtain ⟨⟨k0, k1⟩, ⟨u0, u1⟩, ⟨i0, i1⟩, ⟨e0, e1⟩⟩ := hsm
  go_enter Try.func17, Try.ntmps17
  go_wp2
  go_quiet (fail)
  go_wp2
  go_ret
  exact ⟨ret_int (by unfold headWordI; omega), _, rfl⟩

theorem headWordI_small {k u i e : Int} (h : smallHead k u i e) : -100000 ≤ headWordI k u i e ∧ headWordI k u i e ≤ 10000000000 := by
  unfold smallHead at h
  unfold headWordI
  omega

set_option maxHeartbeats 1000000 in
theorem drawWordHead_any (a : Option Addr) (n c : Nat) (w : World) (h : CodeAt w a n) (hn : n ≤ 1048576) :
    Calls Try.prog 7 #[.slice a n c] w fun r w' => (∃ v : Int, r = .returned (.int .i64 v)) ∧ Below w.heap.size w w' := by
  have H := hide h
  clear h
  go_enter Try.func7, Try.ntmps7
  go_wp2_with fail
  refine (l1Source_any a n c _).mono ?_
  rintro r w1 ⟨rfl, rfl⟩
  have H1 := hide (srcAt_new (unhide H) hn c 0 54)
  go_wp2_with fail
  refine (drawHeadFault_any a n c _ ((unhide H).below ((Below.refl _ _).alloc (Nat.le_refl _) _)) hn).mono ?_
  rintro r w2 ⟨⟨k, u, i, e, rfl, hsm⟩, hb2⟩
  have hz2 : w.heap.size < w2.heap.size := by have := hb2.size; simp at this; omega
  have H2 := hide ((unhide H1).below hb2)
  have G2 := hide (below_step ((Below.refl _ _).alloc (Nat.le_refl _) _) hb2 (by simp))
  have HM := hide hsm
  have hwb := headWordI_small hsm
  generalize hwi : headWordI k u i e = word at *
  have HW := hide hwi
  clear hb2 hsm H1 hwi
  go_wp2_with fail
  refine (l1HeadWord_small w2.heap.size k u i e _ (unhide HM) ?_ ?_ ?_ ?_).mono ?_
  · go_simp
  · go_simp
  · go_simp
  · go_simp
  rintro r w3 ⟨rfl, m, rfl⟩
  rw [unhide HW]
  go_wp2_with fail
  have hs3 : SrcAt ((w2.alloc (.cells #[.int .i64 k, .int .i64 u, .int .i64 i, .int .i64 e] 25)).drewN m) 54 w.heap.size a n c 0 := (unhide H2).alloc _
  have g3 : Below w.heap.size w ((w2.alloc (.cells #[.int .i64 k, .int .i64 u, .int .i64 i, .int .i64 e] 25)).drewN m) := below_drewN ((unhide G2).alloc (by omega) _) m
  refine (l1Chance_any w.heap.size a n c 0 5 _ hs3 (by omega) (by omega) (by omega)).mono ?_
  rintro r w4 ⟨⟨b, rfl⟩, hs4, ho4⟩
  have hz4 : w4.heap.size = w2.heap.size + 1 := by rw [ho4.size]; show (w2.alloc _).heap.size = _; simp
  have H4 := hide hs4
  have G4 := hide (g3.trans (ho4.below (Nat.le_refl _)))
  clear hs3 g3 hs4 ho4
  cases b
  · go_wp2_with fail
    go_ret
    exact ⟨⟨_, rfl⟩, unhide G4⟩
  · go_wp2_with fail
    refine (l1Pick_any w.heap.size a n c (0 + 1) (fun _ => True) (w2.heap.size + 1) 7 7 _ ((unhide H4).alloc _) (by omega) (by omega) (by omega) (offer_new _ _ _ _ _ _ hz4 rfl (by simp)) (by omega)).mono ?_
    rintro r w5 ⟨⟨x, _, rfl⟩, hs5, ho5⟩
    have G5 := hide (((unhide G4).alloc (by omega) _).trans (ho5.below (Nat.le_refl _)))
    clear hs5 ho5
    go_wp2_with fail
    go_ret
    exact ⟨⟨_, rfl⟩, unhide G5⟩
end Go.Proofs.Ytomlllpojpbciaa
