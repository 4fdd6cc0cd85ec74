/-
  What is wrong with words, and with cells: asked by the program.
-/
import Derived.Test.YtdnfadbkpajloaaCellsOfWalk
import Derived.Test.YtdnfadbkpajloaaInWalk
import Derived.Test.YtdnfadbkpajloaaWordsWalk
namespace Go.Proofs.Ytdnfadbkpajloaa
open Go.RowKit

set_option maxHeartbeats 1000000 in
theorem hasWord_any (m n c : Nat) (a : Option Addr) (x : Int) (w : World) (hc : w.cell? ⟨m, 0, none⟩ = some (.slice a n c)) (hn : n ≤ 1048576) :
    Calls Try.prog 83 #[.pointer (some ⟨m, 0, none⟩), .int .i64 x] w fun e w' => e = .returned (.bool (atOk n x)) ∧ w' = w := by
  go_enter Try.func83, Try.ntmps83
  go_wp2_with fail
  refine (isWithin_any _ 0 _ _).mono ?_
  rintro e w1 ⟨rfl, rfl⟩
  have HR : Hid (atOk n x = inB x 0 ((n : Int) - 1)) := rfl
  generalize inB x 0 ((n : Int) - 1) = r at *
  go_wp2_with fail
  go_ret
  exact ⟨ret_bool (unhide HR).symm, rfl⟩
theorem allCells_false {n : Nat} {l : List (Int × Int)} {k : Nat} (hk : k < l.length) (h : cellOk n l[k] = false) : allCells n l = false := by
  cases hq : allCells n l
  · rfl
  · rw [allCells, List.all_eq_true] at hq
    rw [hq _ (List.getElem_mem hk)] at h; cases h
theorem allCells_true {n : Nat} {l : List (Int × Int)} (h : ∀ j (hj : j < l.length), cellOk n l[j] = true) : allCells n l = true := by
  rw [allCells, List.all_eq_true]
  intro x hx
  obtain ⟨j, hj, rfl⟩ := List.getElem_of_mem hx
  exact h j hj
set_option maxHeartbeats 1000000 in
theorem askCells_any (m n c0 : Nat) (a0 : Option Addr) (a : Option Addr) (c : Nat) (l : List (Int × Int)) (w : World) (hc : w.cell? ⟨m, 0, none⟩ = some (.slice a0 n c0)) (hn0 : n ≤ 1048576) (h : PairsAt w a l) (hn : l.length ≤ 1048576) :
    Calls Try.prog 197 #[.pointer (some ⟨m, 0, none⟩), .slice a l.length c] w fun e w' => ((allCells n l = true ∧ e = .returned (.tuple #[])) ∨ (allCells n l = false ∧ e = thrown 3)) ∧ Below w.heap.size w w' := by
  have hm := World.block_lt_of_cell? w _ hc
  dsimp only at hm
  go_enter Try.func197, Try.ntmps197
  go_wp2
  go_loopw [8] (fun i wr => ∃ k : Nat, k ≤ l.length ∧ i = .int .i64 k ∧ Hid (Below w.heap.size w wr) ∧ Hid (∀ j (hj : j < l.length), j < k → cellOk n l[j] = true)) (fun i _ => l.length - (intOf i).toNat)
  case atStart => exact ⟨0, Nat.zero_le _, rfl, Below.refl _ _, fun j _ hj => absurd hj (Nat.not_lt_zero j)⟩
  case round =>
    obtain ⟨k, hk, rfl, HB, HX⟩ := hrel
    by_cases hlt : k < l.length
    · obtain ⟨b1, o1, rfl, m1, hc1⟩ := h.at hlt
      have hk1 := ((bcell (unhide HB)).1 b1 (o1 + k * 2) m1).trans (hc1 k hlt).1
      have hj1 := ((bcell (unhide HB)).1 b1 (o1 + k * 2 + 1) m1).trans (hc1 k hlt).2
      have hcm := ((bcell (unhide HB)).1 m 0 hm).trans hc
      have hwz := (unhide HB).size
      clear hc1 hc h
      have hdef : cellOk n l[k] = (atOk n l[k].1 && wordOk l[k].2) := rfl
      go_wp2_with fail
      obtain ⟨W3, hW3, z4, hb3, hx3⟩ := boxes1 wr [.int .i64 l[k].1, .int .i64 l[k].2] 42
      rw [← hW3]
      clear hW3
      have hq3 := ((bcell (unhide hb3)).1 m 0 (by omega)).trans hcm
      have B3 := hide (below_step (unhide HB) (unhide hb3) hwz)
      have p1 := (unhide hx3).cell 1
      simp at p1
      refine (hasWord_any m n c0 a0 l[k].1 _ hq3 hn0).mono ?_
      rintro e w4 ⟨rfl, rfl⟩
      cases h1 : atOk n l[k].1
      · have HV : Hid (allCells n l = false) := allCells_false hlt (by rw [hdef, h1]; rfl)
        clear hdef h1
        go_wp2_with fail
        exact ⟨rfl, .inr ⟨unhide HV, rfl⟩, unhide B3⟩
      rw [h1] at hdef
      clear h1
      go_wp2_with fail
      refine (isWord_any _ _).mono ?_
      rintro e w4 ⟨rfl, rfl⟩
      cases h2 : wordOk l[k].2
      · have HV : Hid (allCells n l = false) := allCells_false hlt (by rw [hdef, h2]; rfl)
        clear hdef h2
        go_wp2_with fail
        exact ⟨rfl, .inr ⟨unhide HV, rfl⟩, unhide B3⟩
      have HX2 : Hid (∀ j (hj : j < l.length), j < k + 1 → cellOk n l[j] = true) := by
        intro j hj hj1
        by_cases e : j = k
        · subst e; rw [hdef, h2]; rfl
        · exact unhide HX j hj (by omega)
      clear hdef h2
      go_wp2_with fail
      go_roundw
      case rel => exact ⟨k + 1, by omega, by go_num, B3, HX2⟩
      case measure => simp [intOf]; omega
    · have HV := hide (allCells_true (fun j hj => unhide HX j hj (by omega)))
      clear h hc
      go_wp2
      go_end0
      exact ⟨.inl ⟨unhide HV, rfl⟩, unhide HB⟩
end Go.Proofs.Ytdnfadbkpajloaa
