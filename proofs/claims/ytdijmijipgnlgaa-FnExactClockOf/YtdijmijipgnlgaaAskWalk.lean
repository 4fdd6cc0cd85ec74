/-
  What is wrong with words, and with cells: asked by the program.
-/
import Derived.Test.YtdijmijipgnlgaaCellsOfWalk
import Derived.Test.YtdijmijipgnlgaaInWalk
namespace Go.Proofs.Ytdijmijipgnlgaa
open Go.RowKit

set_option maxHeartbeats 1000000 in
theorem isWord_any (n : Int) (w : World) :
    Calls Try.prog 161 #[.int .i64 n] w fun e w' => e = .returned (.bool (wordOk n)) ∧ w' = w := by
  go_enter Try.func161, Try.ntmps161
  go_wp2_with fail
  refine (isWithin_any n 0 999999999999999 _).mono ?_
  rintro e w1 ⟨rfl, rfl⟩
  have HR : Hid (wordOk n = inB n 0 999999999999999) := rfl
  generalize inB n 0 999999999999999 = r at *
  go_wp2_with fail
  go_ret
  exact ⟨ret_bool (unhide HR).symm, rfl⟩
theorem allWords_false {l : List Int} {k : Nat} (hk : k < l.length) (h : wordOk l[k] = false) : allWords l = false := by
  cases hq : allWords l
  · rfl
  · rw [allWords, List.all_eq_true] at hq
    rw [hq _ (List.getElem_mem hk)] at h; cases h
theorem allWords_true {l : List Int} (h : ∀ j (hj : j < l.length), wordOk l[j] = true) : allWords l = true := by
  rw [allWords, List.all_eq_true]
  intro x hx
  obtain ⟨j, hj, rfl⟩ := List.getElem_of_mem hx
  exact h j hj
set_option maxHeartbeats 1000000 in
theorem areWords_any (a : Option Addr) (c : Nat) (l : List Int) (w : World) (h : IntsAt w a l) (hn : l.length ≤ 1048576) :
    Calls Try.prog 196 #[.slice a l.length c] w fun e w' => e = .returned (.bool (allWords l)) ∧ w' = w := by
  go_enter Try.func196, Try.ntmps196
  go_wp2
  go_loop [7] (fun i => ∃ k : Nat, k ≤ l.length ∧ i = .int .i64 k ∧ Hid (∀ j (hj : j < l.length), j < k → wordOk l[j] = true)) (fun i => l.length - (intOf i).toNat)
  case atStart => exact ⟨0, Nat.zero_le _, rfl, fun j _ hj => absurd hj (Nat.not_lt_zero j)⟩
  case round =>
    obtain ⟨k, hk, rfl, HX⟩ := hrel
    by_cases hlt : k < l.length
    · obtain ⟨b, o, rfl, hb, hc⟩ := h.at hlt
      have hck := hc k hlt
      clear hc h
      cases hq : wordOk l[k]
      · have HV := hide (allWords_false hlt hq)
        go_wp2_with fail
        refine (isWord_any _ _).mono ?_
        rintro e w1 ⟨rfl, rfl⟩
        rw [hq]
        go_wp2_with fail
        go_ret
        exact ⟨ret_bool (unhide HV).symm, rfl⟩
      · have HX2 : Hid (∀ j (hj : j < l.length), j < k + 1 → wordOk l[j] = true) := by
          intro j hj hj1
          by_cases e : j = k
          · subst e; exact hq
          · exact unhide HX j hj (by omega)
        go_wp2_with fail
        refine (isWord_any _ _).mono ?_
        rintro e w1 ⟨rfl, rfl⟩
        rw [hq]
        clear hq
        go_wp2_with fail
        go_round
        case rel => exact ⟨k + 1, by omega, by go_num, HX2⟩
        case measure => simp [intOf]; omega
    · have HV := hide (allWords_true (fun j hj => unhide HX j hj (by omega)))
      clear h
      go_wp2
      go_ret
      exact ⟨ret_bool (unhide HV).symm, rfl⟩
/-- What is wrong with words. -/
def wordsCode (l : List Int) : Int := if sizeOk l.length = true then (if allWords l = true then 0 else 3) else 2
set_option maxHeartbeats 1000000 in
theorem wordsFault_any (a : Option Addr) (c : Nat) (l : List Int) (w : World) (h : IntsAt w a l) (hn : l.length ≤ 1048576) :
    Calls Try.prog 151 #[.slice a l.length c] w fun e w' => e = .returned (.int .i64 (wordsCode l)) ∧ w' = w := by
  have H := hide h
  clear h
  by_cases hm : (l.length : Int) % 8 = 0
  · have hmb : ((l.length : Int) % 8 != 0) = false := by simpa using hm
    have htm : (l.length : Int).tmod 8 = (l.length : Int) % 8 := Int.tmod_eq_emod_of_nonneg (by omega)
    have htd : (l.length : Int).tdiv 8 = (l.length : Int) / 8 := Int.tdiv_eq_ediv_of_nonneg (by omega)
    cases hin : inB ((l.length : Int) / 8) 2 41
    · have hs : sizeOk l.length = false := by
        have := inB_false.1 hin
        simp [sizeOk]; omega
      have HV : Hid (wordsCode l = 2) := by simp [Hid, wordsCode, hs]
      clear hm hs
      go_enter Try.func151, Try.ntmps151
      go_wp2_with fail
      refine (isWithin_any _ 2 41 _).mono ?_
      rintro e w1 ⟨rfl, rfl⟩
      rw [hin]
      go_wp2_with fail
      go_ret
      exact ⟨ret_int (unhide HV).symm, rfl⟩
    · have hs : sizeOk l.length = true := by
        have := inB_true.1 hin
        simp [sizeOk]; omega
      have HV : Hid (wordsCode l = if allWords l = true then 0 else 3) := by simp [Hid, wordsCode, hs]
      clear hm hs
      go_enter Try.func151, Try.ntmps151
      go_wp2_with fail
      refine (isWithin_any _ 2 41 _).mono ?_
      rintro e w1 ⟨rfl, rfl⟩
      rw [hin]
      clear hin
      go_wp2_with fail
      refine (areWords_any a c l _ (unhide H) hn).mono ?_
      rintro e w1 ⟨rfl, rfl⟩
      cases hw : allWords l
      · have HV2 : Hid (wordsCode l = 3) := by rw [Hid, unhide HV, hw]; rfl
        go_wp2_with fail
        go_ret
        exact ⟨ret_int (unhide HV2).symm, rfl⟩
      · have HV2 : Hid (wordsCode l = 0) := by rw [Hid, unhide HV, hw]; rfl
        go_wp2_with fail
        go_ret
        exact ⟨ret_int (unhide HV2).symm, rfl⟩
  · have hmb : ((l.length : Int) % 8 != 0) = true := by simpa using hm
    have htm : (l.length : Int).tmod 8 = (l.length : Int) % 8 := Int.tmod_eq_emod_of_nonneg (by omega)
    have hs : sizeOk l.length = false := by simp [sizeOk]; omega
    have HV : Hid (wordsCode l = 2) := by simp [Hid, wordsCode, hs]
    clear hm hs
    go_enter Try.func151, Try.ntmps151
    go_wp2_with fail
    go_ret
    exact ⟨ret_int (unhide HV).symm, rfl⟩
set_option maxHeartbeats 1000000 in
theorem hasWord_any (m n c : Nat) (a : Option Addr) (x : Int) (w : World) (hc : w.cell? ⟨m, 0, none⟩ = some (.slice a n c)) (hn : n ≤ 1048576) :
    Calls Try.prog 98 #[.pointer (some ⟨m, 0, none⟩), .int .i64 x] w fun e w' => e = .returned (.bool (atOk n x)) ∧ w' = w := by
  go_enter Try.func98, Try.ntmps98
  go_wp2_with fail
  refine (isWithin_any _ 0 _ _).mono ?_
  rintro e w1 ⟨rfl, rfl⟩
  have HR : Hid (atOk n x = inB x 0 ((n : Int) - 1)) := rfl
  generalize inB x 0 ((n : Int) - 1) = r at *
  go_wp2_with fail
  go_ret
  exact ⟨ret_bool (unhide HR).symm, rfl⟩
theorem allCells_false {n : Nat} {l : List (Int × Int)} {k : Nat} (hk : k < l.length) (h : cellOk n l[k] = false) : allCells n l = false := by
  cases hq : allCells n l
  · rfl
  · rw [allCells, List.all_eq_true] at hq
    rw [hq _ (List.getElem_mem hk)] at h; cases h
theorem allCells_true {n : Nat} {l : List (Int × Int)} (h : ∀ j (hj : j < l.length), cellOk n l[j] = true) : allCells n l = true := by
  rw [allCells, List.all_eq_true]
  intro x hx
  obtain ⟨j, hj, rfl⟩ := List.getElem_of_mem hx
  exact h j hj
set_option maxHeartbeats 1000000 in
theorem askCells_any (m n c0 : Nat) (a0 : Option Addr) (a : Option Addr) (c : Nat) (l : List (Int × Int)) (w : World) (hc : w.cell? ⟨m, 0, none⟩ = some (.slice a0 n c0)) (hn0 : n ≤ 1048576) (h : PairsAt w a l) (hn : l.length ≤ 1048576) :
    Calls Try.prog 201 #[.pointer (some ⟨m, 0, none⟩), .slice a l.length c] w fun e w' => ((allCells n l = true ∧ e = .returned (.tuple #[])) ∨ (allCells n l = false ∧ e = thrown 3)) ∧ Below w.heap.size w w' := by
  have hm := World.block_lt_of_cell? w _ hc
  dsimp only at hm
  go_enter Try.func201, Try.ntmps201
  go_wp2
  go_loopw [8] (fun i wr => ∃ k : Nat, k ≤ l.length ∧ i = .int .i64 k ∧ Hid (Below w.heap.size w wr) ∧ Hid (∀ j (hj : j < l.length), j < k → cellOk n l[j] = true)) (fun i _ => l.length - (intOf i).toNat)
  case atStart => exact ⟨0, Nat.zero_le _, rfl, Below.refl _ _, fun j _ hj => absurd hj (Nat.not_lt_zero j)⟩
  case round =>
    obtain ⟨k, hk, rfl, HB, HX⟩ := hrel
    by_cases hlt : k < l.length
    · obtain ⟨b1, o1, rfl, m1, hc1⟩ := h.at hlt
      have hk1 := ((bcell (unhide HB)).1 b1 (o1 + k * 2) m1).trans (hc1 k hlt).1
      have hj1 := ((bcell (unhide HB)).1 b1 (o1 + k * 2 + 1) m1).trans (hc1 k hlt).2
      have hcm := ((bcell (unhide HB)).1 m 0 hm).trans hc
      have hwz := (unhide HB).size
      clear hc1 hc h
      have hdef : cellOk n l[k] = (atOk n l[k].1 && wordOk l[k].2) := rfl
      go_wp2_with fail
      obtain ⟨W3, hW3, z4, hb3, hx3⟩ := boxes1 wr [.int .i64 l[k].1, .int .i64 l[k].2] 47
      rw [← hW3]
      clear hW3
      have hq3 := ((bcell (unhide hb3)).1 m 0 (by omega)).trans hcm
      have B3 := hide (below_step (unhide HB) (unhide hb3) hwz)
      have p1 := (unhide hx3).cell 1
      simp at p1
      refine (hasWord_any m n c0 a0 l[k].1 _ hq3 hn0).mono ?_
      rintro e w4 ⟨rfl, rfl⟩
      cases h1 : atOk n l[k].1
      · have HV : Hid (allCells n l = false) := allCells_false hlt (by rw [hdef, h1]; rfl)
        clear hdef h1
        go_wp2_with fail
        exact ⟨rfl, .inr ⟨unhide HV, rfl⟩, unhide B3⟩
      rw [h1] at hdef
      clear h1
      go_wp2_with fail
      refine (isWord_any _ _).mono ?_
      rintro e w4 ⟨rfl, rfl⟩
      cases h2 : wordOk l[k].2
      · have HV : Hid (allCells n l = false) := allCells_false hlt (by rw [hdef, h2]; rfl)
        clear hdef h2
        go_wp2_with fail
        exact ⟨rfl, .inr ⟨unhide HV, rfl⟩, unhide B3⟩
      have HX2 : Hid (∀ j (hj : j < l.length), j < k + 1 → cellOk n l[j] = true) := by
        intro j hj hj1
        by_cases e : j = k
        · subst e; rw [hdef, h2]; rfl
        · exact unhide HX j hj (by omega)
      clear hdef h2
      go_wp2_with fail
      go_roundw
      case rel => exact ⟨k + 1, by omega, by go_num, B3, HX2⟩
      case measure => simp [intOf]; omega
    · have HV := hide (allCells_true (fun j hj => unhide HX j hj (by omega)))
      clear h hc
      go_wp2
      go_end0
      exact ⟨.inl ⟨unhide HV, rfl⟩, unhide HB⟩
end Go.Proofs.Ytdijmijipgnlgaa
