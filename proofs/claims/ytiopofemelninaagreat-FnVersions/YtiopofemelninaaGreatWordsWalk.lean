/-
  What is wrong with words: asked by the program, and by the specification.
-/
import Derived.Test.YtiopofemelninaaGreatProg
import Derived.Test.YtiopofemelninaaGreatDevMath
import Derived.Test.YtiopofemelninaaGreatRowMath
import Derived.Test.YtiopofemelninaaGreatInWalk
import Derived.WalkKit
import Derived.WalkLawsBesides
namespace Go.Proofs.YtiopofemelninaaGreat
open Go.RowKit

set_option maxHeartbeats 1000000 in
theorem isWord_any (n : Int) (w : World) :
    Calls Tryz.prog 97 #[.int .i64 n] w fun e w' => e = .returned (.bool (wordOk n)) ∧ w' = w := by
  go_enter Tryz.func97, Tryz.ntmps97
  go_wp2_with fail
  refine (isWithin_any n 0 999999999999999 _).mono ?_
  rintro e w1 ⟨rfl, rfl⟩
  have HR : Hid (wordOk n = inB n 0 999999999999999) := rfl
  generalize inB n 0 999999999999999 = r at *
  go_wp2_with fail
  go_ret
  exact ⟨ret_bool (unhide HR).symm, rfl⟩
theorem allWords_false {l : List Int} {k : Nat} (hk : k < l.length) (h : wordOk l[k] = false) : allWords l = false := by
  cases hq : allWords l
  · rfl
  · rw [allWords, List.all_eq_true] at hq
    rw [hq _ (List.getElem_mem hk)] at h; cases h
theorem allWords_true {l : List Int} (h : ∀ j (hj : j < l.length), wordOk l[j] = true) : allWords l = true := by
  rw [allWords, List.all_eq_true]
  intro x hx
  obtain ⟨j, hj, rfl⟩ := List.getElem_of_mem hx
  exact h j hj
set_option maxHeartbeats 1000000 in
theorem areWords_any (a : Option Addr) (c : Nat) (l : List Int) (w : World) (h : IntsAt w a l) (hn : l.length ≤ 1048576) :
    Calls Tryz.prog 67 #[.slice a l.length c] w fun e w' => e = .returned (.bool (allWords l)) ∧ w' = w := by
  go_enter Tryz.func67, Tryz.ntmps67
  go_wp2
  go_loop [7] (fun i => ∃ k : Nat, k ≤ l.length ∧ i = .int .i64 k ∧ Hid (∀ j (hj : j < l.length), j < k → wordOk l[j] = true)) (fun i => l.length - (intOf i).toNat)
  case atStart => exact ⟨0, Nat.zero_le _, rfl, fun j _ hj => absurd hj (Nat.not_lt_zero j)⟩
  case round =>
    obtain ⟨k, hk, rfl, HX⟩ := hrel
    by_cases hlt : k < l.length
    · obtain ⟨b, o, rfl, hb, hc⟩ := h.at hlt
      have hck := hc k hlt
      clear hc h
      cases hq : wordOk l[k]
      · have HV := hide (allWords_false hlt hq)
        go_wp2_with fail
        refine (isWord_any _ _).mono ?_
        rintro e w1 ⟨rfl, rfl⟩
        rw [hq]
        go_wp2_with fail
        go_ret
        exact ⟨ret_bool (unhide HV).symm, rfl⟩
      · have HX2 : Hid (∀ j (hj : j < l.length), j < k + 1 → wordOk l[j] = true) := by
          intro j hj hj1
          by_cases e : j = k
          · subst e; exact hq
          · exact unhide HX j hj (by omega)
        go_wp2_with fail
        refine (isWord_any _ _).mono ?_
        rintro e w1 ⟨rfl, rfl⟩
        rw [hq]
        clear hq
        go_wp2_with fail
        go_round
        case rel => exact ⟨k + 1, by omega, by go_num, HX2⟩
        case measure => simp [intOf]; omega
    · have HV := hide (allWords_true (fun j hj => unhide HX j hj (by omega)))
      clear h
      go_wp2
      go_ret
      exact ⟨ret_bool (unhide HV).symm, rfl⟩
/-- What is wrong with words. -/
def wordsCode (l : List Int) : Int := if sizeOk l.length = true then (if allWords l = true then 0 else 3) else 2
set_option maxHeartbeats 1000000 in
theorem wordsFault_any (a : Option Addr) (c : Nat) (l : List Int) (w : World) (h : IntsAt w a l) (hn : l.length ≤ 1048576) :
    Calls Tryz.prog 38 #[.slice a l.length c] w fun e w' => e = .returned (.int .i64 (wordsCode l)) ∧ w' = w := by
  have H := hide h
  clear h
  by_cases hm : (l.length : Int) % 8 = 0
  · have hmb : ((l.length : Int) % 8 != 0) = false := by simpa using hm
    have htm : (l.length : Int).tmod 8 = (l.length : Int) % 8 := Int.tmod_eq_emod_of_nonneg (by omega)
    have htd : (l.length : Int).tdiv 8 = (l.length : Int) / 8 := Int.tdiv_eq_ediv_of_nonneg (by omega)
    cases hin : inB ((l.length : Int) / 8) 2 41
    · have hs : sizeOk l.length = false := by
        have := inB_false.1 hin
        simp [sizeOk]; omega
      have HV : Hid (wordsCode l = 2) := by simp [Hid, wordsCode, hs]
      clear hm hs
      go_enter Tryz.func38, Tryz.ntmps38
      go_wp2_with fail
      refine (isWithin_any _ 2 41 _).mono ?_
      rintro e w1 ⟨rfl, rfl⟩
      rw [hin]
      go_wp2_with fail
      go_ret
      exact ⟨ret_int (unhide HV).symm, rfl⟩
    · have hs : sizeOk l.length = true := by
        have := inB_true.1 hin
        simp [sizeOk]; omega
      have HV : Hid (wordsCode l = if allWords l = true then 0 else 3) := by simp [Hid, wordsCode, hs]
      clear hm hs
      go_enter Tryz.func38, Tryz.ntmps38
      go_wp2_with fail
      refine (isWithin_any _ 2 41 _).mono ?_
      rintro e w1 ⟨rfl, rfl⟩
      rw [hin]
      clear hin
      go_wp2_with fail
      refine (areWords_any a c l _ (unhide H) hn).mono ?_
      rintro e w1 ⟨rfl, rfl⟩
      cases hw : allWords l
      · have HV2 : Hid (wordsCode l = 3) := by rw [Hid, unhide HV, hw]; rfl
        go_wp2_with fail
        go_ret
        exact ⟨ret_int (unhide HV2).symm, rfl⟩
      · have HV2 : Hid (wordsCode l = 0) := by rw [Hid, unhide HV, hw]; rfl
        go_wp2_with fail
        go_ret
        exact ⟨ret_int (unhide HV2).symm, rfl⟩
  · have hmb : ((l.length : Int) % 8 != 0) = true := by simpa using hm
    have htm : (l.length : Int).tmod 8 = (l.length : Int) % 8 := Int.tmod_eq_emod_of_nonneg (by omega)
    have hs : sizeOk l.length = false := by simp [sizeOk]; omega
    have HV : Hid (wordsCode l = 2) := by simp [Hid, wordsCode, hs]
    clear hm hs
    go_enter Tryz.func38, Tryz.ntmps38
    go_wp2_with fail
    go_ret
    exact ⟨ret_int (unhide HV).symm, rfl⟩
set_option maxHeartbeats 1000000 in
theorem l1Word_any (n : Int) (w : World) :
    Calls Tryz.prog 40 #[.int .i64 n] w fun e w' => e = .returned (.bool (wordOk n)) ∧ w' = w := by
  go_enter Tryz.func40, Tryz.ntmps40
  go_wp2_with fail
  refine (l1In_any n 0 999999999999999 _).mono ?_
  rintro e w1 ⟨rfl, rfl⟩
  have HR : Hid (wordOk n = inB n 0 999999999999999) := rfl
  generalize inB n 0 999999999999999 = r at *
  go_wp2_with fail
  go_ret
  exact ⟨ret_bool (unhide HR).symm, rfl⟩
theorem allW_false {l : List Int} {k : Nat} (hk : k < l.length) (h : wordOk l[k] = false) : allWords l = false := by
  cases hq : allWords l
  · rfl
  · rw [allWords, List.all_eq_true] at hq
    rw [hq _ (List.getElem_mem hk)] at h; cases h
theorem allW_true {l : List Int} (h : ∀ j (hj : j < l.length), wordOk l[j] = true) : allWords l = true := by
  rw [allWords, List.all_eq_true]
  intro x hx
  obtain ⟨j, hj, rfl⟩ := List.getElem_of_mem hx
  exact h j hj
end Go.Proofs.YtiopofemelninaaGreat
