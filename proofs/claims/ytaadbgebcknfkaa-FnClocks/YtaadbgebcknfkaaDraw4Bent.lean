/-
  The laws' draws of images that are bent: l4Bent, DrawClockTo.
-/
import Derived.Test.YtaadbgebcknfkaaDraw4Image
import Derived.Test.YtaadbgebcknfkaaDraw3Fault
import Derived.Test.YtaadbgebcknfkaaDraw3Pack
namespace Go.Proofs.Ytaadbgebcknfkaa
open Go.RowKit
set_option linter.unusedVariables false

/-- Words in a block: so many that can be told, the word 1 between 0 and 10000. -/
structure BentAt (w : World) (g : Nat) (l : List Int) : Prop where
  row : ∃ L : List Int, Box w g (nums L) 2 ∧ l = L.take l.length
  one : ∀ x, l[1]? = some x → 0 ≤ x ∧ x ≤ 10000
theorem BentAt.ints {w : World} {g : Nat} {l : List Int} (h : BentAt w g l) : IntsAt w (some ⟨g, 0, none⟩) l := by
  obtain ⟨L, hb, hl⟩ := h.row
  refine .inr ⟨g, 0, rfl, hb.lt, fun i hi => ?_⟩
  have hi2 : i < L.length := by
    have := congrArg List.length hl
    rw [List.length_take] at this
    omega
  rw [Nat.zero_add, hb.cell, nums_at hi2]
  congr 2
  have h3 : l[i]? = (L.take l.length)[i]? := by rw [← hl]
  rw [List.getElem?_eq_getElem hi, List.getElem?_take_of_lt hi, List.getElem?_eq_getElem hi2] at h3
  injection h3 with h3
  exact h3.symm
theorem BentAt.below {w w' : World} {g : Nat} {l : List Int} (h : BentAt w g l) (hb : Below w.heap.size w w') : BentAt w' g l := by
  obtain ⟨⟨L, hx, hl⟩, h1⟩ := h
  exact ⟨⟨L, hx.below hb, hl⟩, h1⟩
theorem BentAt.out {F : Nat → Prop} {w w' : World} {g : Nat} {l : List Int} (h : BentAt w g l) (ho : Out F w w') (hF : ¬ F g) : BentAt w' g l := by
  obtain ⟨⟨L, hx, hl⟩, h1⟩ := h
  exact ⟨⟨L, hx.out ho hF, hl⟩, h1⟩
theorem bent_of {w : World} {g : Nat} {L : List Int} (h : Box w g (nums L) 2) (h1 : ∀ x, L[1]? = some x → 0 ≤ x ∧ x ≤ 10000) (k : Nat) (hk : k ≤ L.length) : ∃ l : List Int, l.length = k ∧ BentAt w g l := by
  have e : (L.take k).length = k := by rw [List.length_take]; omega
  refine ⟨L.take k, e, ⟨L, h, by rw [e]⟩, fun x hx => h1 x ?_⟩
  by_cases hk1 : 1 < k
  · rwa [List.getElem?_take_of_lt hk1] at hx
  · rw [List.getElem?_eq_none (by omega)] at hx; cases hx
theorem bent_set {w : World} {g j : Nat} {x : Int} {L : List Int} (hL : L.length ≤ 200) (hj : j < L.length) (h : Box w g ((nums L).take j ++ [.int .i64 x] ++ (nums L).drop (j + 1)) 2) (h1 : ∀ x, L[1]? = some x → 0 ≤ x ∧ x ≤ 10000) (hx : j = 1 → 0 ≤ x ∧ x ≤ 10000) : ∃ l : List Int, l.length = L.length ∧ BentAt w g l := by
  have hb := set_row hj (hide h)
  have hl : (L.set j x).length = L.length := List.length_set
  obtain ⟨l, e, hb2⟩ := bent_of hb (fun y hy => by
    by_cases e : j = 1
    · subst e
      rw [List.getElem?_set_self hj] at hy
      injection hy with hy
      rw [← hy]
      exact hx rfl
    · rw [List.getElem?_set_ne e] at hy
      exact h1 y hy) L.length (by omega)
  exact ⟨l, e, hb2⟩
set_option maxRecDepth 20000 in
set_option maxHeartbeats 8000000 in
theorem l4Bent_any (s : Nat) (a : Option Addr) (n c : Nat) (w : World) (h : SrcTo w s a n c 0) :
    Calls Try.prog 49 #[.pointer (some ⟨s, 0, none⟩)] w fun e w' => (∃ (g m cp : Nat) (l : List Int), e = .returned (.slice (some ⟨g, 0, none⟩) m cp) ∧ List.length l = m ∧ m ≤ cp ∧ cp ≤ 200 ∧ w.heap.size ≤ g ∧ BentAt w' g l) ∧ SrcTo w' s a n c 500 ∧ Out (fun q => q = s) w w' := by
  have hsl := h.lt
  have H := hide h
  clear h
  go_enter Try.func49, Try.ntmps49
  go_wp2_with fail
  refine (l4Image_any s a n c w (unhide H)).mono ?_
  rintro r w1 ⟨⟨g, ls, rfl, hl4, hl16, hgw, v1, hv2, hv9, hR⟩, hs, ho⟩
  obtain ⟨L, hL, hB, hL1⟩ := hR
  have hone : ∀ x, L[1]? = some x → 0 ≤ x ∧ x ≤ 10000 := fun x hx => by rw [hL1] at hx; injection hx with hx; omega
  have H1 := hide hone
  have X1 := hide hB
  have S1 := hide hs
  have O1 := hide ho
  have z1 := ho.size
  have HL := hide hL
  have gs : g ≠ s := by omega
  have sg : s < g := by omega
  clear hs ho hB hone hL hL1 H
  have hN : ls * 8 ≤ 128 := by omega
  go_wp2_with fail
  refine (nextTo s a n c 400 14 _ (unhide S1) (by omega) (by omega) (by omega)).mono ?_
  rintro r w2 ⟨⟨y, rfl, hy0, hy1⟩, hs, ho⟩
  have S2 := hide hs
  have X2 := hide ((unhide X1).out ho gs)
  have O2 := hide ((unhide O1).trans ho (fun q _ e => e))
  have z2 := ho.size
  clear hs ho S1 X1 O1
  by_cases hy : y = 0
  · subst hy
    clear hy0 hy1
    go_wp2_with fail
    refine (pickTo s a n c (400 + 1) (fun x => True) (nums [0, 691691692, -1]).toArray 2 3 w2 (unhide S2) (by omega) rfl (by omega) (by omega) (offerI _ _ (fun _ _ => trivial))).mono ?_
    rintro r w3 ⟨⟨x, -, rfl⟩, hs, ho⟩
    have S3 := hide hs
    have X3 := hide ((unhide X2).out ho gs)
    have O3 := hide ((unhide O2).trans ho (fun q _ e => e))
    clear hs ho S2 X2 O2
    have hj : (0 : Nat) < L.length := by have := unhide HL; omega
    go_wp2_with (refine wpList_store_cell rfl 2 (.tmp 14) (.tmp 13) rfl g 0 (.int .i64 x) rfl rfl 2 _ (unhide X3) (by kernel_rfl) (by rw [nums_length]; omega) rfl rfl ?_; intro w4 X4 O4)
    go_ret
    obtain ⟨l, hl, hb⟩ := bent_set (by have := unhide HL; omega) hj (unhide X4) (unhide H1) (fun e => by omega)
    exact ⟨⟨g, _, _, l, rfl, by rw [hl, unhide HL], by omega, by omega, hgw, hb⟩, ((unhide S3).above (unhide O4) (fun q e => by omega)).more (by omega), (unhide O3).trans (unhide O4) (fun q hq e => by omega)⟩
  have hyb0 : (y == 0) = false := by simpa using hy
  clear hy
  by_cases hy : y = 1
  · subst hy
    clear hy0 hy1
    go_wp2_with fail
    refine (pickTo s a n c (400 + 1) (fun x => 0 ≤ x ∧ x ≤ 10000) (nums [0, 1, 3, 9999, 10000]).toArray 2 5 w2 (unhide S2) (by omega) rfl (by omega) (by omega) (offerI _ _ (by intro v hv; simp at hv; omega))).mono ?_
    rintro r w3 ⟨⟨x, hx, rfl⟩, hs, ho⟩
    have S3 := hide hs
    have X3 := hide ((unhide X2).out ho gs)
    have O3 := hide ((unhide O2).trans ho (fun q _ e => e))
    clear hs ho S2 X2 O2
    have hj : (1 : Nat) < L.length := by have := unhide HL; omega
    have hN1 : (1 : Int) < ((ls * 8 : Nat) : Int) := by omega
    go_wp2_with (refine wpList_store_cell rfl 2 (.tmp 21) (.tmp 20) rfl g 1 (.int .i64 x) rfl rfl 2 _ (unhide X3) (by kernel_rfl) (by rw [nums_length]; omega) rfl rfl ?_; intro w4 X4 O4)
    go_ret
    obtain ⟨l, hl, hb⟩ := bent_set (by have := unhide HL; omega) hj (unhide X4) (unhide H1) (fun e => hx)
    exact ⟨⟨g, _, _, l, rfl, by rw [hl, unhide HL], by omega, by omega, hgw, hb⟩, ((unhide S3).above (unhide O4) (fun q e => by omega)).more (by omega), (unhide O3).trans (unhide O4) (fun q hq e => by omega)⟩
  have hyb1 : (y == 1) = false := by simpa using hy
  clear hy
  by_cases hy : y = 2
  · subst hy
    clear hy0 hy1 hyb0 hyb1
    have htd : (((ls * 8 : Nat) : Int)).tdiv 8 = (ls : Int) := by rw [Int.tdiv_eq_ediv_of_nonneg (by omega)]; omega
    go_wp2_with fail
    refine (nextTo s a n c (400 + 1) ls _ (unhide S2) (by omega) (by omega) (by omega)).mono ?_
    rintro r w3 ⟨⟨k', rfl, hk0, hk1⟩, hs, ho⟩
    obtain ⟨k, rfl⟩ : ∃ k : Nat, k' = k := ⟨k'.toNat, by omega⟩
    have S3 := hide hs
    have X3 := hide ((unhide X2).out ho gs)
    have O3 := hide ((unhide O2).trans ho (fun q _ e => e))
    have z3 := ho.size
    clear hs ho S2 X2 O2 htd
    go_wp2_with fail
    refine (pickTo s a n c (400 + 1 + 1) (fun x => True) (nums [5, 4, 99, 16033, 1000000000000000]).toArray 2 5 w3 (unhide S3) (by omega) rfl (by omega) (by omega) (offerI _ _ (fun _ _ => trivial))).mono ?_
    rintro r w4 ⟨⟨x, -, rfl⟩, hs, ho⟩
    have S4 := hide hs
    have X4 := hide ((unhide X3).out ho gs)
    have O4 := hide ((unhide O3).trans ho (fun q _ e => e))
    clear hs ho S3 X3 O3
    have hj : 8 * k < L.length := by have := unhide HL; omega
    have hkN : 8 * (k : Int) < ((ls * 8 : Nat) : Int) := by omega
    have hk8 : (0 : Int) ≤ 8 * (k : Int) := by omega
    go_wp2_with (refine wpList_store_cell rfl 2 (.tmp 34) (.tmp 33) rfl g (8 * k) (.int .i64 x) rfl rfl 2 _ (unhide X4) (by kernel_rfl) (by rw [nums_length]; omega) rfl rfl ?_; intro w5 X5 O5)
    go_ret
    obtain ⟨l, hl, hb⟩ := bent_set (by have := unhide HL; omega) hj (unhide X5) (unhide H1) (fun e => by omega)
    exact ⟨⟨g, _, _, l, rfl, by rw [hl, unhide HL], by omega, by omega, hgw, hb⟩, ((unhide S4).above (unhide O5) (fun q e => by omega)).more (by omega), (unhide O4).trans (unhide O5) (fun q hq e => by omega)⟩
  have hyb2 : (y == 2) = false := by simpa using hy
  clear hy
  by_cases hy : y = 3
  · subst hy
    clear hy0 hy1 hyb0 hyb1 hyb2
    go_wp2_with fail
    refine (nextTo s a n c (400 + 1) ((ls * 8 : Nat) : Int) _ (unhide S2) (by omega) (by omega) (by omega)).mono ?_
    rintro r w3 ⟨⟨k', rfl, hk0, hk1⟩, hs, ho⟩
    obtain ⟨k, rfl⟩ : ∃ k : Nat, k' = k := ⟨k'.toNat, by omega⟩
    have S3 := hide hs
    have X3 := hide ((unhide X2).out ho gs)
    have O3 := hide ((unhide O2).trans ho (fun q _ e => e))
    have z3 := ho.size
    clear hs ho S2 X2 O2
    go_wp2_with fail
    refine (pickTo s a n c (400 + 1 + 1) (fun x => 0 ≤ x ∧ x ≤ 10000) (nums [1, 2, 0]).toArray 2 3 w3 (unhide S3) (by omega) rfl (by omega) (by omega) (offerI _ _ (by intro v hv; simp at hv; omega))).mono ?_
    rintro r w4 ⟨⟨x, hx, rfl⟩, hs, ho⟩
    have S4 := hide hs
    have X4 := hide ((unhide X3).out ho gs)
    have O4 := hide ((unhide O3).trans ho (fun q _ e => e))
    clear hs ho S3 X3 O3
    have hj : k < L.length := by have := unhide HL; omega
    go_wp2_with (refine wpList_store_cell rfl 2 (.tmp 45) (.tmp 44) rfl g k (.int .i64 x) rfl rfl 2 _ (unhide X4) (by kernel_rfl) (by rw [nums_length]; omega) rfl rfl ?_; intro w5 X5 O5)
    go_ret
    obtain ⟨l, hl, hb⟩ := bent_set (by have := unhide HL; omega) hj (unhide X5) (unhide H1) (fun e => hx)
    exact ⟨⟨g, _, _, l, rfl, by rw [hl, unhide HL], by omega, by omega, hgw, hb⟩, ((unhide S4).above (unhide O5) (fun q e => by omega)).more (by omega), (unhide O4).trans (unhide O5) (fun q hq e => by omega)⟩
  have hyb3 : (y == 3) = false := by simpa using hy
  clear hy
  by_cases hy : y = 4
  · subst hy
    clear hy0 hy1 hyb0 hyb1 hyb2 hyb3
    have hm : (0 : Int) ≤ ((ls * 8 : Nat) : Int) - 1 ∧ ((ls * 8 : Nat) : Int) - 1 ≤ ((ls * 8 : Nat) : Int) := by omega
    go_wp2_with fail
    go_ret
    obtain ⟨l, hl, hb⟩ := bent_of (unhide X2) (unhide H1) (ls * 8 - 1) (by have := unhide HL; omega)
    exact ⟨⟨g, _, _, l, rfl, by (rw [hl]) <;> omega, by omega, by omega, hgw, hb⟩, (unhide S2).more (by omega), unhide O2⟩
  have hyb4 : (y == 4) = false := by simpa using hy
  clear hy
  by_cases hy : y = 5
  · subst hy
    clear hy0 hy1 hyb0 hyb1 hyb2 hyb3 hyb4
    go_wp2_with fail
    refine (pickTo s a n c (400 + 1) (fun x => 0 ≤ x ∧ x ≤ 2) (nums [0, 1, 2]).toArray 2 3 w2 (unhide S2) (by omega) rfl (by omega) (by omega) (offerI _ _ (by intro v hv; simp at hv; omega))).mono ?_
    rintro r w3 ⟨⟨x', hx, rfl⟩, hs, ho⟩
    obtain ⟨x, rfl⟩ : ∃ x : Nat, x' = x := ⟨x'.toNat, by omega⟩
    have S3 := hide hs
    have X3 := hide ((unhide X2).out ho gs)
    have O3 := hide ((unhide O2).trans ho (fun q _ e => e))
    clear hs ho S2 X2 O2
    have hm : (0 : Int) ≤ 8 * (x : Int) ∧ 8 * (x : Int) ≤ ((ls * 8 : Nat) : Int) := by omega
    go_wp2_with fail
    go_ret
    obtain ⟨l, hl, hb⟩ := bent_of (unhide X3) (unhide H1) (8 * x) (by have := unhide HL; omega)
    exact ⟨⟨g, _, _, l, rfl, by (rw [hl]) <;> omega, by omega, by omega, hgw, hb⟩, (unhide S3).more (by omega), unhide O3⟩
  have hyb5 : (y == 5) = false := by simpa using hy
  clear hy
  go_wp2_with fail
  go_ret
  obtain ⟨l, hl, hb⟩ := bent_of (unhide X2) (unhide H1) (ls * 8) (by have := unhide HL; omega)
  exact ⟨⟨g, _, _, l, rfl, hl, by omega, by omega, hgw, hb⟩, (unhide S2).more (by omega), unhide O2⟩
theorem srcTo_new {w W : World} {a : Option Addr} {n c : Nat} (hW : W = w.alloc (.cells #[.slice a n c, .int .i64 0] 132)) (h : CodeAt w a n) (hn : n ≤ 2000000) : SrcTo W w.heap.size a n c 0 ∧ Below w.heap.size w W :=
  ⟨⟨0, Nat.le_refl _, (source_new hW h hn).1⟩, (source_new hW h hn).2⟩
set_option maxRecDepth 20000 in
set_option maxHeartbeats 4000000 in
theorem drawClockTo_any (a : Option Addr) (n c : Nat) (w : World) (h : CodeAt w a n) (hn : n ≤ 1048576) :
    Calls Try.prog 17 #[.slice a n c] w fun r w' => (∃ (g m cp : Nat) (l : List Int) (x : Int), r = .returned (.tuple #[.slice (some ⟨g, 0, none⟩) m cp, .int .i64 x]) ∧ List.length l = m ∧ m ≤ cp ∧ cp ≤ 200 ∧ BentAt w' g l ∧ 0 ≤ x ∧ x ≤ 10002) ∧ Below w.heap.size w w' := by
  have H := hide h
  clear h
  go_enter Try.func17, Try.ntmps17
  go_wp2_with fail
  refine (l1Source_any a n c _).mono ?_
  rintro r W1 ⟨rfl, hW1⟩
  obtain ⟨hS, hB⟩ := srcTo_new hW1 (unhide H) (by omega)
  have S1 := hide hS
  have B1 := hide hB
  have z1 := hB.size
  clear hS hB hW1 H
  go_wp2_with fail
  refine (l4Bent_any w.heap.size a n c W1 (unhide S1)).mono ?_
  rintro r w2 ⟨⟨g, m, cp, l, rfl, hl, hmc, hcp, hgw, hb⟩, hs, ho⟩
  have S2 := hide hs
  have B2 : Hid (Below w.heap.size w w2) := ho.below (unhide B1) (Nat.le_refl _) (fun q hq e => by omega)
  have T2 := hide hb
  have HL := hide hl
  have gs : g ≠ w.heap.size := by have := (unhide S1).lt; omega
  clear hs ho hb hl S1 B1
  by_cases hm : 1 < m
  · have hmi : (1 : Int) < (m : Int) := by omega
    obtain ⟨y, hy⟩ : ∃ y, l[1]? = some y := ⟨l[1]'(by have := unhide HL; omega), List.getElem?_eq_getElem _⟩
    have hyb := (unhide T2).one y hy
    have c1 : w2.cell? ⟨g, 1, none⟩ = some (.int .i64 y) := by
      obtain ⟨b', o', e', -, hc⟩ := (unhide T2).ints.at (k := 1) (by have := unhide HL; omega)
      cases e'
      have := hc 1 (by have := unhide HL; omega)
      rw [show l[1]'(by have := unhide HL; omega) = y by rw [List.getElem?_eq_getElem (by have := unhide HL; omega)] at hy; injection hy] at this
      simpa using this
    clear hy
    go_wp2_with fail
    clear c1
    refine (pickTo w.heap.size a n c 500 (fun x => 0 ≤ x ∧ x ≤ 10002) (nums [y, y + 1, y + 2, 9999, 10000, 1]).toArray 2 6 w2 (unhide S2) (by omega) rfl (by omega) (by omega) (offerI _ _ (by intro v hv; simp at hv; omega))).mono ?_
    rintro r w3 ⟨⟨x, hx, rfl⟩, hs, ho⟩
    have B3 : Hid (Below w.heap.size w w3) := ho.below (unhide B2) (Nat.le_refl _) (fun q hq e => by omega)
    have T3 := hide ((unhide T2).out ho gs)
    clear hs ho S2 B2 T2
    go_wp2_with fail
    refine bodyPost_ret (v := .tuple #[.slice (some ⟨g, 0, none⟩) m cp, .int .i64 x]) (by simp [results, Try.results17, go_sem]) rfl ⟨⟨g, m, cp, l, x, rfl, unhide HL, hmc, hcp, unhide T3, hx.1, hx.2⟩, unhide B3⟩
  · have hmi : ¬ (1 : Int) < (m : Int) := by omega
    go_wp2_with fail
    refine (pickTo w.heap.size a n c 500 (fun x => 0 ≤ x ∧ x ≤ 10002) (nums [5, 6, 7, 9999, 10000, 1]).toArray 2 6 w2 (unhide S2) (by omega) rfl (by omega) (by omega) (offerI _ _ (by intro v hv; simp at hv; omega))).mono ?_
    rintro r w3 ⟨⟨x, hx, rfl⟩, hs, ho⟩
    have B3 : Hid (Below w.heap.size w w3) := ho.below (unhide B2) (Nat.le_refl _) (fun q hq e => by omega)
    have T3 := hide ((unhide T2).out ho gs)
    clear hs ho S2 B2 T2
    go_wp2_with fail
    refine bodyPost_ret (v := .tuple #[.slice (some ⟨g, 0, none⟩) m cp, .int .i64 x]) (by simp [results, Try.results17, go_sem]) rfl ⟨⟨g, m, cp, l, x, rfl, unhide HL, hmc, hcp, unhide T3, hx.1, hx.2⟩, unhide B3⟩
end Go.Proofs.Ytaadbgebcknfkaa
