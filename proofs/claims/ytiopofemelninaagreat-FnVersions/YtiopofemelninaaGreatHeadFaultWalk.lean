/-
  What spec.HeadFault and impl.HeadFault answer: 'headCode' of the fields.
-/
import Derived.Test.YtiopofemelninaaGreatProg
import Derived.Test.YtiopofemelninaaGreatHeadMath
import Derived.Test.YtiopofemelninaaGreatInWalk
import Derived.WalkKit
import Derived.WalkLawsBesides
namespace Go.Proofs.YtiopofemelninaaGreat
open Go.RowKit

set_option maxHeartbeats 1000000 in
theorem specHeadFault_any (k u i e : Int) (w : World) :
    Calls Tryz.prog 88 #[.agg #[.int .i64 k, .int .i64 u, .int .i64 i, .int .i64 e]] w fun r w' => r = .returned (.int .i64 (headCode k u i e)) ∧ ∃ c t, w' = w.alloc (.cells c t) := by
  by_cases hk : k = 0
  · subst hk
    by_cases hz : u = 0 ∧ i = 0 ∧ e = 0
    · obtain ⟨rfl, rfl, rfl⟩ := hz
      go_enter Tryz.func88, Tryz.ntmps88
      go_wp2
      go_ret
      exact ⟨rfl, _, _, rfl⟩
    · have hr : headCode 0 u i e = 3 := headCode_three (by simp [headOk]; omega)
      have HR := hide hr
      clear hr
      go_enter Tryz.func88, Tryz.ntmps88
      go_wp2
      all_goals go_ret
      all_goals exact ⟨ret_int (unhide HR).symm, _, _, rfl⟩
  · have hk' : (k == 0) = false := by simpa using hk
    cases h1 : inB k 1 3
    · have hr : headCode k u i e = 3 := headCode_three (by simp [headOk, hk, h1])
      have HR := hide hr
      clear hr
      go_enter Tryz.func88, Tryz.ntmps88
      go_wp2_with (go_at_call 41; refine (l1In_any _ _ _ _).mono ?_; rintro e w' ⟨rfl, rfl⟩)
      go_ret
      exact ⟨ret_int (unhide HR).symm, _, _, rfl⟩
    cases h2 : inB u 1 999
    · have hr : headCode k u i e = 3 := headCode_three (by simp [headOk, hk, h2])
      have HR := hide hr
      clear hr
      go_enter Tryz.func88, Tryz.ntmps88
      go_wp2_with (go_at_call 41; refine (l1In_any _ _ _ _).mono ?_; rintro e w' ⟨rfl, rfl⟩)
      go_ret
      exact ⟨ret_int (unhide HR).symm, _, _, rfl⟩
    cases h3 : inB i 0 3
    · have hr : headCode k u i e = 3 := headCode_three (by simp [headOk, hk, h3])
      have HR := hide hr
      clear hr
      go_enter Tryz.func88, Tryz.ntmps88
      go_wp2_with (go_at_call 41; refine (l1In_any _ _ _ _).mono ?_; rintro e w' ⟨rfl, rfl⟩)
      go_ret
      exact ⟨ret_int (unhide HR).symm, _, _, rfl⟩
    cases h4 : inB e 1 9999
    · have hr : headCode k u i e = 3 := headCode_three (by simp [headOk, hk, h4])
      have HR := hide hr
      clear hr
      by_cases h5 : k = 2
      · have c5 : (k != 2) = false := by simpa using h5
        clear h5 hk
        go_enter Tryz.func88, Tryz.ntmps88
        go_wp2_with (go_at_call 41; refine (l1In_any _ _ _ _).mono ?_; rintro e w' ⟨rfl, rfl⟩)
        go_ret
        exact ⟨ret_int (unhide HR).symm, _, _, rfl⟩
      · have c5 : (k != 2) = true := by simpa using h5
        clear h5 hk
        cases c6 : (i != 0)
        · go_enter Tryz.func88, Tryz.ntmps88
          go_wp2_with (go_at_call 41; refine (l1In_any _ _ _ _).mono ?_; rintro e w' ⟨rfl, rfl⟩)
          go_ret
          exact ⟨ret_int (unhide HR).symm, _, _, rfl⟩
        · go_enter Tryz.func88, Tryz.ntmps88
          go_wp2_with (go_at_call 41; refine (l1In_any _ _ _ _).mono ?_; rintro e w' ⟨rfl, rfl⟩)
          go_ret
          exact ⟨ret_int (unhide HR).symm, _, _, rfl⟩
    by_cases h5 : k = 2
    · have hr : headCode k u i e = 0 := headCode_zero (headOk_mk2 h1 h2 h3 h4 hk h5)
      have HR := hide hr
      have c5 : (k != 2) = false := by simpa using h5
      clear h5 hk hr
      go_enter Tryz.func88, Tryz.ntmps88
      go_wp2_with (go_at_call 41; refine (l1In_any _ _ _ _).mono ?_; rintro e w' ⟨rfl, rfl⟩)
      go_ret
      exact ⟨ret_int (unhide HR).symm, _, _, rfl⟩
    · have c5 : (k != 2) = true := by simpa using h5
      by_cases h6 : i = 0
      · have hr : headCode k u i e = 0 := headCode_zero (headOk_mk0 h1 h2 h3 h4 hk h6)
        have HR := hide hr
        have c6 : (i != 0) = false := by simpa using h6
        clear h5 hk h6 hr
        go_enter Tryz.func88, Tryz.ntmps88
        go_wp2_with (go_at_call 41; refine (l1In_any _ _ _ _).mono ?_; rintro e w' ⟨rfl, rfl⟩)
        go_ret
        exact ⟨ret_int (unhide HR).symm, _, _, rfl⟩
      · have hr : headCode k u i e = 3 := headCode_three (by simp [headOk, hk, h5, h6])
        have HR := hide hr
        have c6 : (i != 0) = true := by simpa using h6
        clear h5 hk h6 hr
        go_enter Tryz.func88, Tryz.ntmps88
        go_wp2_with (go_at_call 41; refine (l1In_any _ _ _ _).mono ?_; rintro e w' ⟨rfl, rfl⟩)
        go_ret
        exact ⟨ret_int (unhide HR).symm, _, _, rfl⟩
set_option maxHeartbeats 2000000 in
theorem isUsedHead_any (k u i e : Int) (w : World) :
    Calls Tryz.prog 128 #[.agg #[.int .i64 k, .int .i64 u, .int .i64 i, .int .i64 e]] w fun r w' => r = .returned (.bool (usedB k u i e)) ∧ ∃ c t, w' = w.alloc (.cells c t) := by
  by_cases h5 : k = 2
  · have c5 : (k == 2) = true := by simpa using h5
    obtain ⟨b, hr⟩ : ∃ b, usedB k u i e = b := ⟨_, rfl⟩
    have hq : (inB k 1 3 && inB u 1 999 && inB i 0 3 && inB e 1 9999) = b := by rw [← hr, usedB, if_pos h5]
    have HR := hide hr
    clear hr h5
    cases h1 : inB k 1 3 <;> cases h2 : inB u 1 999 <;> cases h3 : inB i 0 3 <;> cases h4 : inB e 1 9999
    all_goals
      rw [h1, h2, h3, h4] at hq
      have HQ := hide hq
      clear hq
      go_enter Tryz.func128, Tryz.ntmps128
      go_wp2_with (go_at_call 39; refine (isWithin_any _ _ _ _).mono ?_; rintro e w' ⟨rfl, rfl⟩)
      go_ret
      exact ⟨ret_bool ((unhide HQ).trans (unhide HR).symm), _, _, rfl⟩
  · have c5 : (k == 2) = false := by simpa using h5
    obtain ⟨b, hr⟩ : ∃ b, usedB k u i e = b := ⟨_, rfl⟩
    have hq : (inB k 1 3 && inB u 1 999 && inB i 0 0 && inB e 1 9999) = b := by rw [← hr, usedB, if_neg h5]
    have HR := hide hr
    clear hr h5
    cases h1 : inB k 1 3 <;> cases h2 : inB u 1 999 <;> cases h3 : inB i 0 0 <;> cases h4 : inB e 1 9999
    all_goals
      rw [h1, h2, h3, h4] at hq
      have HQ := hide hq
      clear hq
      go_enter Tryz.func128, Tryz.ntmps128
      go_wp2_with (go_at_call 39; refine (isWithin_any _ _ _ _).mono ?_; rintro e w' ⟨rfl, rfl⟩)
      go_ret
      exact ⟨ret_bool ((unhide HQ).trans (unhide HR).symm), _, _, rfl⟩
set_option maxHeartbeats 2000000 in
theorem implHeadFault_any (k u i e : Int) (w : World) :
    Calls Tryz.prog 105 #[.agg #[.int .i64 k, .int .i64 u, .int .i64 i, .int .i64 e]] w fun r w' => r = .returned (.int .i64 (headCode k u i e)) ∧ Below w.heap.size w w' := by
  by_cases hk : k = 0
  · subst hk
    cases h2 : (u != 0)
    · cases h3 : (i != 0)
      · cases h4 : (e != 0)
        · have hr : headCode 0 u i e = 0 := headCode_zero (by simp at h2 h3 h4; simp [headOk, h2, h3, h4])
          have HR := hide hr
          clear hr
          go_enter Tryz.func105, Tryz.ntmps105
          go_wp2
          go_ret
          exact ⟨ret_int (unhide HR).symm, (Below.refl _ _).alloc (Nat.le_refl _) _⟩
        · have hr : headCode 0 u i e = 3 := headCode_three (by simp at h4; simp [headOk, h4])
          have HR := hide hr
          clear hr
          go_enter Tryz.func105, Tryz.ntmps105
          go_wp2
          go_ret
          exact ⟨ret_int (unhide HR).symm, (Below.refl _ _).alloc (Nat.le_refl _) _⟩
      · have hr : headCode 0 u i e = 3 := headCode_three (by simp at h3; simp [headOk, h3])
        have HR := hide hr
        clear hr
        go_enter Tryz.func105, Tryz.ntmps105
        go_wp2
        go_ret
        exact ⟨ret_int (unhide HR).symm, (Below.refl _ _).alloc (Nat.le_refl _) _⟩
    · have hr : headCode 0 u i e = 3 := headCode_three (by simp at h2; simp [headOk, h2])
      have HR := hide hr
      clear hr
      go_enter Tryz.func105, Tryz.ntmps105
      go_wp2
      go_ret
      exact ⟨ret_int (unhide HR).symm, (Below.refl _ _).alloc (Nat.le_refl _) _⟩
  · have c1 : (k == 0) = false := by simpa using hk
    have c2 : (k != 0) = true := by simpa using hk
    cases hu : usedB k u i e
    · have hr : headCode k u i e = 3 := headCode_three (by rw [headOk_used hk, hu])
      have HR := hide hr
      clear hr hk
      go_enter Tryz.func105, Tryz.ntmps105
      go_wp2_with (go_at_call 128; refine (isUsedHead_any _ _ _ _ _).mono ?_; rintro e w' ⟨rfl, c, t, rfl⟩)
      go_ret
      exact ⟨ret_int (unhide HR).symm, ((Below.refl _ _).alloc (Nat.le_refl _) _).alloc (by simp) _⟩
    · have hr : headCode k u i e = 0 := headCode_zero (by rw [headOk_used hk, hu])
      have HR := hide hr
      clear hr hk
      go_enter Tryz.func105, Tryz.ntmps105
      go_wp2_with (go_at_call 128; refine (isUsedHead_any _ _ _ _ _).mono ?_; rintro e w' ⟨rfl, c, t, rfl⟩)
      go_ret
      exact ⟨ret_int (unhide HR).symm, ((Below.refl _ _).alloc (Nat.le_refl _) _).alloc (by simp) _⟩
end Go.Proofs.YtiopofemelninaaGreat
