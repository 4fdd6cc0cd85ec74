/-
  What spec.NumbersFault and impl.NumbersFault answer: 'numsCode' of the list.
-/
import Derived.Test.YtiopofemelninaaGreatProg
import Derived.Test.YtiopofemelninaaGreatNodeMath
import Derived.Test.YtiopofemelninaaGreatRowMath
import Derived.Test.YtiopofemelninaaGreatInWalk
import Derived.WalkKit
import Derived.WalkLawsBesides
namespace Go.Proofs.YtiopofemelninaaGreat
open Go.RowKit

set_option maxHeartbeats 1000000 in
theorem specNumbersFault_any (a : Option Addr) (c : Nat) (l : List Int) (w : World) (h : IntsAt w a l) (hn : l.length ≤ 1048576) :
    Calls Tryz.prog 123 #[.slice a l.length c] w fun e w' => e = .returned (.int .i64 (numsCode l)) ∧ w' = w := by
  by_cases hl : l.length = 4
  · have hlb : ((l.length : Int) != 4) = false := by simp; omega
    have HL := hide hl
    clear hl
    go_enter Tryz.func123, Tryz.ntmps123
    go_wp2
    go_loop [3] (fun i => ∃ k : Nat, k ≤ l.length ∧ i = .int .i64 k ∧ Hid (∀ j (hj : j < l.length), j < k → inB l[j] 0 9999 = true)) (fun i => l.length - (intOf i).toNat)
    case atStart => exact ⟨0, Nat.zero_le _, rfl, fun j _ hj => absurd hj (Nat.not_lt_zero j)⟩
    case round =>
      obtain ⟨k, hk, rfl, HX⟩ := hrel
      by_cases hlt : k < l.length
      · obtain ⟨b, o, rfl, hb, hc⟩ := h.at hlt
        have hck := hc k hlt
        clear hc h
        cases hq : inB l[k] 0 9999
        · have HV := hide (numsCode_three (unhide HL) hlt hq)
          clear hlb
          go_wp2_with fail
          refine (l1In_any _ _ _ _).mono ?_
          rintro e w1 ⟨rfl, rfl⟩
          rw [hq]
          go_wp2_with fail
          go_ret
          exact ⟨ret_int (unhide HV).symm, rfl⟩
        · have HX2 : Hid (∀ j (hj : j < l.length), j < k + 1 → inB l[j] 0 9999 = true) := by
            intro j hj hj1
            by_cases e : j = k
            · subst e; exact hq
            · exact unhide HX j hj (by omega)
          go_wp2_with fail
          refine (l1In_any _ _ _ _).mono ?_
          rintro e w1 ⟨rfl, rfl⟩
          rw [hq]
          clear hq
          go_wp2_with fail
          go_round
          case rel => exact ⟨k + 1, by omega, by go_num, HX2⟩
          case measure => simp [intOf]; omega
      · have HV := hide (numsCode_zero (unhide HL) (fun j hj => unhide HX j hj (by omega)))
        clear hlb
        go_wp2
        go_ret
        exact ⟨ret_int (unhide HV).symm, rfl⟩
  · have hlb : ((l.length : Int) != 4) = true := by simp; omega
    have HV := hide (numsCode_two hl)
    clear hl
    go_enter Tryz.func123, Tryz.ntmps123
    go_wp2
    go_ret
    exact ⟨ret_int (unhide HV).symm, rfl⟩
set_option maxHeartbeats 1000000 in
theorem implNumbersFault_any (a : Option Addr) (c : Nat) (l : List Int) (w : World) (h : IntsAt w a l) (hn : l.length ≤ 1048576) :
    Calls Tryz.prog 188 #[.slice a l.length c] w fun e w' => e = .returned (.int .i64 (numsCode l)) ∧ w' = w := by
  by_cases hl : l.length = 4
  · have hlb : ((l.length : Int) != 4) = false := by simp; omega
    have HL := hide hl
    clear hl
    go_enter Tryz.func188, Tryz.ntmps188
    go_wp2
    go_loop [10] (fun i => ∃ k : Nat, k ≤ l.length ∧ i = .int .i64 k ∧ Hid (∀ j (hj : j < l.length), j < k → inB l[j] 0 9999 = true)) (fun i => l.length - (intOf i).toNat)
    case atStart => exact ⟨0, Nat.zero_le _, rfl, fun j _ hj => absurd hj (Nat.not_lt_zero j)⟩
    case round =>
      obtain ⟨k, hk, rfl, HX⟩ := hrel
      by_cases hlt : k < l.length
      · obtain ⟨b, o, rfl, hb, hc⟩ := h.at hlt
        have hck := hc k hlt
        clear hc h
        cases hq : inB l[k] 0 9999
        · have HV := hide (numsCode_three (unhide HL) hlt hq)
          clear hlb
          go_wp2_with fail
          refine (isWithin_any _ _ _ _).mono ?_
          rintro e w1 ⟨rfl, rfl⟩
          rw [hq]
          go_wp2_with fail
          go_ret
          exact ⟨ret_int (unhide HV).symm, rfl⟩
        · have HX2 : Hid (∀ j (hj : j < l.length), j < k + 1 → inB l[j] 0 9999 = true) := by
            intro j hj hj1
            by_cases e : j = k
            · subst e; exact hq
            · exact unhide HX j hj (by omega)
          go_wp2_with fail
          refine (isWithin_any _ _ _ _).mono ?_
          rintro e w1 ⟨rfl, rfl⟩
          rw [hq]
          clear hq
          go_wp2_with fail
          go_round
          case rel => exact ⟨k + 1, by omega, by go_num, HX2⟩
          case measure => simp [intOf]; omega
      · have HV := hide (numsCode_zero (unhide HL) (fun j hj => unhide HX j hj (by omega)))
        clear hlb
        go_wp2
        go_ret
        exact ⟨ret_int (unhide HV).symm, rfl⟩
  · have hlb : ((l.length : Int) != 4) = true := by simp; omega
    have HV := hide (numsCode_two hl)
    clear hl
    go_enter Tryz.func188, Tryz.ntmps188
    go_wp2
    go_ret
    exact ⟨ret_int (unhide HV).symm, rfl⟩
end Go.Proofs.YtiopofemelninaaGreat
