/-
  What spec.NodeFault and impl.NodeFault answer: 'nodeCode' of the fields.
-/
import Derived.Test.YtiopofemelninaaGreatProg
import Derived.Test.YtiopofemelninaaGreatNodeMath
import Derived.Test.YtiopofemelninaaGreatInWalk
import Derived.Test.YtiopofemelninaaGreatIsNameWalk
import Derived.WalkKit
import Derived.WalkLawsBesides
namespace Go.Proofs.YtiopofemelninaaGreat
open Go.RowKit

theorem beq_bool_no {a b : Int} (h : ¬ a = b) : (a == b) = false := by simpa using h
theorem beq_bool_yes {a b : Int} (h : a = b) : (a == b) = true := by simpa using h
theorem bne_bool_no {a b : Int} (h : a = b) : (a != b) = false := by simpa using h
theorem bne_bool_yes {a b : Int} (h : ¬ a = b) : (a != b) = true := by simpa using h

set_option maxHeartbeats 2000000 in
theorem specNodeFault_any (u : Int) (d : Bool) (p : Int) (nm : ByteArray) (s : Int) (w : World) (hs : nm.size ≤ maxLen) :
    Calls Tryz.prog 121 #[.agg #[.int .i64 u, .bool d, .int .i64 p, .string nm, .int .i64 s]] w fun r w' => r = .returned (.int .i64 (nodeCode u d p nm.data.toList s)) ∧ Below w.heap.size w w' := by
  cases h1 : inB u 1 999
  · have hr : nodeCode u d p nm.data.toList s = 3 := nodeCode_three (by simp [nodeNums, h1])
    have HR := hide hr
    clear hr
    go_enter Tryz.func121, Tryz.ntmps121
    go_wp2_with (first | (go_at_call 41; refine (l1In_any _ _ _ _).mono ?_; rintro e w' ⟨rfl, rfl⟩) | (go_at_call 139; refine (specIsName_any _ _ hs).mono ?_; rintro e w' ⟨rfl, rfl⟩))
    go_ret
    exact ⟨ret_int (unhide HR).symm, (Below.refl _ _).alloc (Nat.le_refl _) _⟩
  cases h2 : inB p 0 999
  · have hr : nodeCode u d p nm.data.toList s = 3 := nodeCode_three (by simp [nodeNums, h2])
    have HR := hide hr
    clear hr
    go_enter Tryz.func121, Tryz.ntmps121
    go_wp2_with (first | (go_at_call 41; refine (l1In_any _ _ _ _).mono ?_; rintro e w' ⟨rfl, rfl⟩) | (go_at_call 139; refine (specIsName_any _ _ hs).mono ?_; rintro e w' ⟨rfl, rfl⟩))
    go_ret
    exact ⟨ret_int (unhide HR).symm, (Below.refl _ _).alloc (Nat.le_refl _) _⟩
  by_cases h3 : p = u
  · have c3 : (p == u) = true := beq_bool_yes h3
    have hr : nodeCode u d p nm.data.toList s = 3 := nodeCode_three (by simp [nodeNums, h3])
    have HR := hide hr
    clear hr h3
    go_enter Tryz.func121, Tryz.ntmps121
    go_wp2_with (first | (go_at_call 41; refine (l1In_any _ _ _ _).mono ?_; rintro e w' ⟨rfl, rfl⟩) | (go_at_call 139; refine (specIsName_any _ _ hs).mono ?_; rintro e w' ⟨rfl, rfl⟩))
    go_ret
    exact ⟨ret_int (unhide HR).symm, (Below.refl _ _).alloc (Nat.le_refl _) _⟩
  have c3 : (p == u) = false := beq_bool_no h3
  cases h4 : inB s 0 4
  · have hr : nodeCode u d p nm.data.toList s = 3 := nodeCode_three (by simp [nodeNums, h4])
    have HR := hide hr
    clear hr h3
    go_enter Tryz.func121, Tryz.ntmps121
    go_wp2_with (first | (go_at_call 41; refine (l1In_any _ _ _ _).mono ?_; rintro e w' ⟨rfl, rfl⟩) | (go_at_call 139; refine (specIsName_any _ _ hs).mono ?_; rintro e w' ⟨rfl, rfl⟩))
    go_ret
    exact ⟨ret_int (unhide HR).symm, (Below.refl _ _).alloc (Nat.le_refl _) _⟩
  by_cases h5 : s = 0
  · have c5 : (s != 0) = false := bne_bool_no h5
    have hok : nodeNums u d p s = true := by rw [nodeNums, h1, h2, h4, c3, h5]; simp
    clear h5 h3
    cases h6 : isNameL nm.data.toList
    · have hr : nodeCode u d p nm.data.toList s = 5 := nodeCode_five hok h6
      have HR := hide hr
      clear hr hok
      cases d
      all_goals
        go_enter Tryz.func121, Tryz.ntmps121
        go_wp2_with (first | (go_at_call 41; refine (l1In_any _ _ _ _).mono ?_; rintro e w' ⟨rfl, rfl⟩) | (go_at_call 139; refine (specIsName_any _ _ hs).mono ?_; rintro e w' ⟨rfl, rfl⟩))
        go_ret
        exact ⟨ret_int (unhide HR).symm, (Below.refl _ _).alloc (Nat.le_refl _) _⟩
    · have hr : nodeCode u d p nm.data.toList s = 0 := nodeCode_zero hok h6
      have HR := hide hr
      clear hr hok
      cases d
      all_goals
        go_enter Tryz.func121, Tryz.ntmps121
        go_wp2_with (first | (go_at_call 41; refine (l1In_any _ _ _ _).mono ?_; rintro e w' ⟨rfl, rfl⟩) | (go_at_call 139; refine (specIsName_any _ _ hs).mono ?_; rintro e w' ⟨rfl, rfl⟩))
        go_ret
        exact ⟨ret_int (unhide HR).symm, (Below.refl _ _).alloc (Nat.le_refl _) _⟩
  · have c5 : (s != 0) = true := bne_bool_yes h5
    cases d
    · have hok : nodeNums u false p s = true := by simp [nodeNums, h1, h2, h3, h4]
      clear h5 h3
      cases h6 : isNameL nm.data.toList
      · have hr : nodeCode u false p nm.data.toList s = 5 := nodeCode_five hok h6
        have HR := hide hr
        clear hr hok
        go_enter Tryz.func121, Tryz.ntmps121
        go_wp2_with (first | (go_at_call 41; refine (l1In_any _ _ _ _).mono ?_; rintro e w' ⟨rfl, rfl⟩) | (go_at_call 139; refine (specIsName_any _ _ hs).mono ?_; rintro e w' ⟨rfl, rfl⟩))
        go_ret
        exact ⟨ret_int (unhide HR).symm, (Below.refl _ _).alloc (Nat.le_refl _) _⟩
      · have hr : nodeCode u false p nm.data.toList s = 0 := nodeCode_zero hok h6
        have HR := hide hr
        clear hr hok
        go_enter Tryz.func121, Tryz.ntmps121
        go_wp2_with (first | (go_at_call 41; refine (l1In_any _ _ _ _).mono ?_; rintro e w' ⟨rfl, rfl⟩) | (go_at_call 139; refine (specIsName_any _ _ hs).mono ?_; rintro e w' ⟨rfl, rfl⟩))
        go_ret
        exact ⟨ret_int (unhide HR).symm, (Below.refl _ _).alloc (Nat.le_refl _) _⟩
    · have hr : nodeCode u true p nm.data.toList s = 3 := nodeCode_three (by simp [nodeNums, h5])
      have HR := hide hr
      clear hr h5 h3
      go_enter Tryz.func121, Tryz.ntmps121
      go_wp2_with (first | (go_at_call 41; refine (l1In_any _ _ _ _).mono ?_; rintro e w' ⟨rfl, rfl⟩) | (go_at_call 139; refine (specIsName_any _ _ hs).mono ?_; rintro e w' ⟨rfl, rfl⟩))
      go_ret
      exact ⟨ret_int (unhide HR).symm, (Below.refl _ _).alloc (Nat.le_refl _) _⟩

set_option maxHeartbeats 1000000 in
theorem hasParent_any (u : Int) (d : Bool) (p : Int) (nm : ByteArray) (s : Int) (w : World) :
    Calls Tryz.prog 184 #[.agg #[.int .i64 u, .bool d, .int .i64 p, .string nm, .int .i64 s]] w fun r w' => r = .returned (.bool (parentOk u p)) ∧ ∃ c t, w' = w.alloc (.cells c t) := by
  cases h2 : inB p 0 999
  · have hr : parentOk u p = false := by simp [parentOk, h2]
    have HR := hide hr
    clear hr
    go_enter Tryz.func184, Tryz.ntmps184
    go_wp2_with (go_at_call 39; refine (isWithin_any _ _ _ _).mono ?_; rintro e w' ⟨rfl, rfl⟩)
    go_ret
    exact ⟨ret_bool (unhide HR).symm, _, _, rfl⟩
  · by_cases h3 : p = u
    · have c3 : (p != u) = false := bne_bool_no h3
      have hr : parentOk u p = false := by simp [parentOk, h3]
      have HR := hide hr
      clear hr h3
      go_enter Tryz.func184, Tryz.ntmps184
      go_wp2_with (go_at_call 39; refine (isWithin_any _ _ _ _).mono ?_; rintro e w' ⟨rfl, rfl⟩)
      go_ret
      exact ⟨ret_bool (unhide HR).symm, _, _, rfl⟩
    · have c3 : (p != u) = true := bne_bool_yes h3
      have hr : parentOk u p = true := by simp [parentOk, h2, h3]
      have HR := hide hr
      clear hr h3
      go_enter Tryz.func184, Tryz.ntmps184
      go_wp2_with (go_at_call 39; refine (isWithin_any _ _ _ _).mono ?_; rintro e w' ⟨rfl, rfl⟩)
      go_ret
      exact ⟨ret_bool (unhide HR).symm, _, _, rfl⟩
set_option maxHeartbeats 1000000 in
theorem hasSize_any (u : Int) (d : Bool) (p : Int) (nm : ByteArray) (s : Int) (w : World) :
    Calls Tryz.prog 185 #[.agg #[.int .i64 u, .bool d, .int .i64 p, .string nm, .int .i64 s]] w fun r w' => r = .returned (.bool (nsizeOk d s)) ∧ ∃ c t, w' = w.alloc (.cells c t) := by
  cases d
  · have hr : nsizeOk false s = inB s 0 4 := by simp [nsizeOk]
    have HR := hide hr
    clear hr
    go_enter Tryz.func185, Tryz.ntmps185
    go_wp2_with (go_at_call 39; refine (isWithin_any _ _ _ _).mono ?_; rintro e w' ⟨rfl, rfl⟩; generalize inB s 0 4 = r at *)
    go_ret
    exact ⟨ret_bool (unhide HR).symm, _, _, rfl⟩
  · have hr : nsizeOk true s = (s == 0) := by simp [nsizeOk]
    have HR := hide hr
    clear hr
    generalize hq : (s == 0) = r at *
    go_enter Tryz.func185, Tryz.ntmps185
    go_wp2
    go_ret
    exact ⟨ret_bool (unhide HR).symm, _, _, rfl⟩
set_option maxHeartbeats 2000000 in
theorem implNodeFault_any (u : Int) (d : Bool) (p : Int) (nm : ByteArray) (s : Int) (w : World) (hs : nm.size ≤ maxLen) :
    Calls Tryz.prog 183 #[.agg #[.int .i64 u, .bool d, .int .i64 p, .string nm, .int .i64 s]] w fun r w' => r = .returned (.int .i64 (nodeCode u d p nm.data.toList s)) ∧ Below w.heap.size w w' := by
  cases h1 : inB u 1 999
  · have hr : nodeCode u d p nm.data.toList s = 3 := nodeCode_three (by simp [nodeNums_parts, h1])
    have HR := hide hr
    clear hr
    go_enter Tryz.func183, Tryz.ntmps183
    go_wp2_with (first | (go_at_call 39; refine (isWithin_any _ _ _ _).mono ?_; rintro e w' ⟨rfl, rfl⟩) | (go_at_call 184; refine (hasParent_any _ _ _ _ _ _).mono ?_; rintro e w' ⟨rfl, c1, t1, rfl⟩) | (go_at_call 185; refine (hasSize_any _ _ _ _ _ _).mono ?_; rintro e w' ⟨rfl, c2, t2, rfl⟩))
    go_ret
    refine ⟨ret_int (unhide HR).symm, ?_⟩
    repeat (first | exact Below.refl _ _ | (with_reducible refine Below.alloc ?_ ?_ _; rotate_left; (first | omega | (simp <;> omega))))
  cases h2 : parentOk u p
  · have hr : nodeCode u d p nm.data.toList s = 3 := nodeCode_three (by simp [nodeNums_parts, h2])
    have HR := hide hr
    clear hr
    go_enter Tryz.func183, Tryz.ntmps183
    go_wp2_with (first | (go_at_call 39; refine (isWithin_any _ _ _ _).mono ?_; rintro e w' ⟨rfl, rfl⟩) | (go_at_call 184; refine (hasParent_any _ _ _ _ _ _).mono ?_; rintro e w' ⟨rfl, c1, t1, rfl⟩) | (go_at_call 185; refine (hasSize_any _ _ _ _ _ _).mono ?_; rintro e w' ⟨rfl, c2, t2, rfl⟩))
    go_ret
    refine ⟨ret_int (unhide HR).symm, ?_⟩
    repeat (first | exact Below.refl _ _ | (with_reducible refine Below.alloc ?_ ?_ _; rotate_left; (first | omega | (simp <;> omega))))
  cases h3 : nsizeOk d s
  · have hr : nodeCode u d p nm.data.toList s = 3 := nodeCode_three (by simp [nodeNums_parts, h3])
    have HR := hide hr
    clear hr
    go_enter Tryz.func183, Tryz.ntmps183
    go_wp2_with (first | (go_at_call 39; refine (isWithin_any _ _ _ _).mono ?_; rintro e w' ⟨rfl, rfl⟩) | (go_at_call 184; refine (hasParent_any _ _ _ _ _ _).mono ?_; rintro e w' ⟨rfl, c1, t1, rfl⟩) | (go_at_call 185; refine (hasSize_any _ _ _ _ _ _).mono ?_; rintro e w' ⟨rfl, c2, t2, rfl⟩))
    go_ret
    refine ⟨ret_int (unhide HR).symm, ?_⟩
    repeat (first | exact Below.refl _ _ | (with_reducible refine Below.alloc ?_ ?_ _; rotate_left; (first | omega | (simp <;> omega))))
  have hok : nodeNums u d p s = true := by simp [nodeNums_parts, h1, h2, h3]
  obtain ⟨b, hb⟩ : ∃ b, isNameL nm.data.toList = b := ⟨_, rfl⟩
  have hr : nodeCode u d p nm.data.toList s = if b = true then 0 else 5 := by cases b <;> simp [nodeCode, hok, hb]
  have HR := hide hr
  clear hr hok
  go_enter Tryz.func183, Tryz.ntmps183
  go_wp2_with (first | (go_at_call 39; refine (isWithin_any _ _ _ _).mono ?_; rintro e w' ⟨rfl, rfl⟩) | (go_at_call 184; refine (hasParent_any _ _ _ _ _ _).mono ?_; rintro e w' ⟨rfl, c1, t1, rfl⟩) | (go_at_call 185; refine (hasSize_any _ _ _ _ _ _).mono ?_; rintro e w' ⟨rfl, c2, t2, rfl⟩))
  refine (implIsName_any nm _ hs).mono ?_
  rintro e w3 ⟨rfl, hw⟩
  have hb3 := below_iter hw
  clear hw
  rw [hb]
  clear hb h1 h2 h3
  cases b
  all_goals
    go_wp2_with fail
    go_ret
    refine ⟨ret_int (by rw [unhide HR]; rfl), ?_⟩
    refine below_step ?_ hb3 (by simp <;> omega)
    repeat (first | exact Below.refl _ _ | (with_reducible refine Below.alloc ?_ ?_ _; rotate_left; (first | omega | (simp <;> omega))))
end Go.Proofs.YtiopofemelninaaGreat
