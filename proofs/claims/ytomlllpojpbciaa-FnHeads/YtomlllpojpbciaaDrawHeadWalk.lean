/-
  The laws' draws of heads: some head, its fields within small bounds.
-/
import Derived.Test.YtomlllpojpbciaaPickWalk
namespace Go.Proofs.Ytomlllpojpbciaa
open Go.RowKit

theorem onlyAlloc_cell {s : Nat} {w1 w2 : World} {o : Obj} (h : Only s (w1.alloc o) w2) {b : Nat} (hb : b ≠ s) (hlt : b < w1.heap.size) (j : Nat) : w2.cell? ⟨b, j, none⟩ = w1.cell? ⟨b, j, none⟩ :=
  (h.cell hb j).trans (World.cell?_of_block (a := ⟨b, j, none⟩) (Below.heap_alloc w1 o b hlt))
theorem onlyAlloc_frozen {s : Nat} {w1 w2 : World} {o : Obj} (h : Only s (w1.alloc o) w2) {b : Nat} (hb : b ≠ s) (hlt : b < w1.heap.size) (j : Nat) : w2.frozen? ⟨b, j, none⟩ = w1.frozen? ⟨b, j, none⟩ :=
  (h.frozen hb j).trans (World.frozen?_of_block (a := ⟨b, j, none⟩) (Below.heap_alloc w1 o b hlt))
theorem SrcAt.setCell {w : World} {t : TypeId} {s : Nat} {a : Option Addr} {n c p : Nat} (h : SrcAt w t s a n c p) {x : Addr} (hx : s < x.block) (v : Value) : SrcAt (w.setCell x v) t s a n c p :=
  h.keep fun k hk => Below.heap_setCell w x v k (by omega)

/-- The fields of a drawn head: small. -/
def smallHead (k u i e : Int) : Prop := (-1 ≤ k ∧ k ≤ 10000) ∧ (-1 ≤ u ∧ u ≤ 10000) ∧ (-1 ≤ i ∧ i ≤ 10000) ∧ (-1 ≤ e ∧ e ≤ 10000)

set_option maxHeartbeats 2000000 in
theorem l1DrawHead_any (s : Nat) (a : Option Addr) (n c p : Nat) (w : World) (h : SrcAt w 54 s a n c p) (hp : p ≤ 1000) :
    Calls Try.prog 26 #[.pointer (some ⟨s, 0, none⟩)] w fun r w' => (∃ k u i e : Int, r = .returned (.agg #[.int .i64 k, .int .i64 u, .int .i64 i, .int .i64 e]) ∧ smallHead k u i e) ∧ (∃ q, q ≤ p + 10 ∧ SrcAt w' 54 s a n c q) ∧ Below s w w' := by
  have hsl := h.lt
  have H := hide h
  clear h
  go_enter Try.func26, Try.ntmps26
  go_wp2_with fail
  refine (l1Pick_any s a n c p (fun v => 1 ≤ v ∧ v ≤ 3) (w.heap.size + 1) 5 5 _ (((unhide H).alloc _).alloc _) (by omega) (by omega) (by omega) (offer_new _ _ _ _ _ _ (by simp) rfl (by simp)) (by omega)).mono ?_
  rintro r w1 ⟨⟨k, hk, rfl⟩, hs1, ho1⟩
  have hz1 : w1.heap.size = w.heap.size + 2 := by rw [ho1.size]; simp
  have q1 : ∀ j, w1.cell? ⟨w.heap.size, j, none⟩ = _ := fun j => ho1.cell (by omega) j
  have f1 : ∀ j, w1.frozen? ⟨w.heap.size, j, none⟩ = _ := fun j => ho1.frozen (by omega) j
  have g1 : Below s w w1 := (((Below.refl s w).alloc (by omega) _).alloc (by simp; omega) _).trans (ho1.below (Nat.le_refl _))
  have H1 := hide hs1
  have G1 := hide g1
  clear hs1 ho1 g1
  go_wp2_with fail
  refine (l1Pick_any s a n c (p + 1) (fun v => 1 ≤ v ∧ v ≤ 999) (w.heap.size + 2) 4 4 _ ((unhide H1).alloc _) (by omega) (by omega) (by omega) (offer_new _ _ _ _ _ _ hz1 rfl (by simp)) (by omega)).mono ?_
  rintro r w2 ⟨⟨u, hu, rfl⟩, hs2, ho2⟩
  have hz2 : w2.heap.size = w.heap.size + 3 := by rw [ho2.size]; simp [hz1]
  have q2 : ∀ j, w2.cell? ⟨w.heap.size, j, none⟩ = _ := fun j => (onlyAlloc_cell ho2 (by omega) (by omega) j).trans (q1 j)
  have f2 : ∀ j, w2.frozen? ⟨w.heap.size, j, none⟩ = _ := fun j => (onlyAlloc_frozen ho2 (by omega) (by omega) j).trans (f1 j)
  have g2 : Below s w w2 := ((unhide G1).alloc (by omega) _).trans (ho2.below (Nat.le_refl _))
  have H2 := hide hs2
  have G2 := hide g2
  clear hs2 ho2 g2 q1 f1 hz1 G1 H1
  go_wp2_with fail
  refine (l1Pick_any s a n c (p + 1 + 1) (fun v => 1 ≤ v ∧ v ≤ 9999) (w.heap.size + 3) 4 4 _ ((unhide H2).alloc _) (by omega) (by omega) (by omega) (offer_new _ _ _ _ _ _ hz2 rfl (by simp)) (by omega)).mono ?_
  rintro r w3 ⟨⟨e, he, rfl⟩, hs3, ho3⟩
  have hz3 : w3.heap.size = w.heap.size + 4 := by rw [ho3.size]; simp [hz2]
  have q3 : ∀ j, w3.cell? ⟨w.heap.size, j, none⟩ = _ := fun j => (onlyAlloc_cell ho3 (by omega) (by omega) j).trans (q2 j)
  have f3 : ∀ j, w3.frozen? ⟨w.heap.size, j, none⟩ = _ := fun j => (onlyAlloc_frozen ho3 (by omega) (by omega) j).trans (f2 j)
  have g3 : Below s w w3 := ((unhide G2).alloc (by omega) _).trans (ho3.below (Nat.le_refl _))
  have H3 := hide hs3
  have G3 := hide g3
  clear hs3 ho3 g3 q2 f2 hz2 G2 H2
  by_cases hk2 : k = 2
  · have hk3 : (k == 2) = true := by simpa using hk2
    clear hk2
    go_wp2_with fail
    refine (l1Next_src s a n c (p + 1 + 1 + 1) 4 _ ((unhide H3).alloc _) (by omega) (by omega) (by omega)).mono ?_
    rintro r w4 ⟨⟨i, rfl, i0, i1⟩, hs4, ho4⟩
    have hz4 : w4.heap.size = w.heap.size + 5 := by rw [ho4.size]; simp [hz3]
    have q4 : ∀ j, w4.cell? ⟨w.heap.size, j, none⟩ = _ := fun j => (onlyAlloc_cell ho4 (by omega) (by omega) j).trans (q3 j)
    have f4 : ∀ j, w4.frozen? ⟨w.heap.size, j, none⟩ = _ := fun j => (onlyAlloc_frozen ho4 (by omega) (by omega) j).trans (f3 j)
    have q5 : ∀ j, w4.cell? ⟨w.heap.size + 4, j, none⟩ = _ := fun j => ho4.cell (by omega) j
    have f5 : ∀ j, w4.frozen? ⟨w.heap.size + 4, j, none⟩ = _ := fun j => ho4.frozen (by omega) j
    have g4 : Below s w w4 := ((unhide G3).alloc (by omega) _).trans (ho4.below (Nat.le_refl _))
    have H4 := hide hs4
    have G4 := hide g4
    clear hs4 ho4 g4 q3 f3
    go_wp2_with fail
    refine bodyPost_ret (v := .agg #[.int .i64 k, .int .i64 u, .int .i64 i, .int .i64 e]) (by simp [results, Try.results26, go_sem, q4]) rfl ⟨⟨k, u, i, e, rfl, by unfold smallHead; omega⟩, ⟨p + 1 + 1 + 1 + 1, by omega, ?_⟩, ?_⟩
    · repeat (first | (with_reducible exact unhide H4) | (with_reducible refine SrcAt.setCell ?_ ?_ _; rotate_left; first | omega | (simp <;> omega)) | with_reducible refine SrcAt.alloc ?_ _)
    · repeat (first | (with_reducible exact unhide G4) | (with_reducible refine Below.alloc ?_ ?_ _; rotate_left; first | omega | (simp <;> omega)) | (with_reducible refine Below.setCell ?_ ?_ _; rotate_left; first | omega | (simp <;> omega)))
  · have hk3 : (k == 2) = false := by simpa using hk2
    clear hk2
    go_wp2_with fail
    refine bodyPost_ret (v := .agg #[.int .i64 k, .int .i64 u, .int .i64 0, .int .i64 e]) (by simp [results, Try.results26, go_sem, q3, hz3]) rfl ⟨⟨k, u, 0, e, rfl, by unfold smallHead; omega⟩, ⟨p + 1 + 1 + 1, by omega, ?_⟩, ?_⟩
    · repeat (first | (with_reducible exact unhide H3) | (with_reducible refine SrcAt.setCell ?_ ?_ _; rotate_left; first | omega | (simp <;> omega)) | with_reducible refine SrcAt.alloc ?_ _)
    · repeat (first | (with_reducible exact unhide G3) | (with_reducible refine Below.alloc ?_ ?_ _; rotate_left; first | omega | (simp <;> omega)) | (with_reducible refine Below.setCell ?_ ?_ _; rotate_left; first | omega | (simp <;> omega)))
end Go.Proofs.Ytomlllpojpbciaa
