/-
  What impl.pathsFault answers.
-/
import Derived.Test.YtcmekhpphgkglaaDoorOpImpl
import Derived.Test.YtcmekhpphgkglaaDoorOrTwo
import Derived.BigQuiet
import Derived.Deep.QuietTactic
import Derived.Deep.RegionHeld3
namespace Go.Proofs.YtcmekhpphgkglaaDoor
open Go.RowKit
set_option linter.unusedVariables false

/-- The library's number that strings.Index asks. -/
def MaxAt (w : World) (m : Int) : Prop := w.cell? ⟨0, 0, none⟩ = some (.int .i64 m) ∧ 0 < w.heap.size
theorem MaxAt.below {w w' : World} {m : Int} (h : MaxAt w m) (hb : Below w.heap.size w w') : MaxAt w' m := ⟨((bcell hb).1 _ _ h.2).trans h.1, Nat.lt_of_lt_of_le h.2 hb.size⟩
def pathsCode (k : Int) (p t : ByteArray) : Int := or0 (if k = 8 then 0 else pnCode p.data.toList) (if k = 5 then pnCode t.data.toList else 0)
theorem or0_zero (x : Int) : or0 x 0 = x := by unfold or0; split <;> simp_all
theorem or0_assoc (x y z : Int) : or0 x (or0 y z) = or0 (or0 x y) z := by unfold or0; split <;> simp_all
theorem orI_or0 (x y : Int) : orI x y = or0 x y := rfl

set_option maxRecDepth 20000 in
set_option maxHeartbeats 4000000 in
theorem pathsFault_any (k : Int) (p t : ByteArray) (d : Bool) (i : Int) (n : Nat) (a : Option Addr) (c : Nat) (m : Int) (w : World) (hm : MaxAt w m) (hp : p.size ≤ 1048576) (ht : t.size ≤ 1048576) :
    Calls Tryd.prog 70 #[.agg #[.int .i64 k, .string p, .string t, .bool d, .int .i64 i, .slice a n c]] w fun r w' => r = .returned (.int .i64 (pathsCode k p t)) ∧ Below w.heap.size w w' := by
  obtain ⟨W, hW, hWz, HB0, HX0⟩ := boxes1 w [.int .i64 k, .string p, .string t, .bool d, .int .i64 i, .slice a n c] 61
  have HM := hide (hm.below (unhide HB0))
  clear hm
  have hfd : ∀ (x : Int) (v : Value) (w : World), (Instr.field 70 (.agg #[.int .i64 x, v]) 0).run Tryd.prog w = .ok (.int .i64 x) w := fun x v w => by kernel_rfl
  by_cases h8 : k = 8
  · subst h8
    have HV : Hid (pathsCode 8 p t = 0) := by simp [Hid, pathsCode, or0]
    go_enter Tryd.func70, Tryd.ntmps70
    go_wp2_with fail
    go_ret
    exact ⟨ret_int (unhide HV).symm, by rw [← hW]; exact unhide HB0⟩
  have h8b : (k == 8) = false := by simpa using h8
  by_cases h5 : k = 5
  · subst h5
    have HV : Hid (pathsCode 5 p t = orI (pnCode p.data.toList) (pnCode t.data.toList)) := by simp [Hid, pathsCode, orI_or0]
    clear h8 h8b
    go_enter Tryd.func70, Tryd.ntmps70
    go_wp2_with fail
    rw [← hW]
    have q1 := (unhide HX0).cell 1
    have q2 := (unhide HX0).cell 2
    simp only [List.getElem?_cons_zero, List.getElem?_cons_succ] at q1 q2
    clear hW
    generalize hbe : w.heap.size = b at *
    have HBE := hide hbe
    clear hbe
    have hbW : b < W.heap.size := by omega
    have hD : (fun w' => Below W.heap.size W w' ∧ w'.cell? ⟨b, 1, none⟩ = some (.string p) ∧ w'.cell? ⟨b, 2, none⟩ = some (.string t)) W.drew := ⟨(Below.refl _ _).drew, q1, q2⟩
    go_region_held3 (fun w' => Below W.heap.size W w' ∧ w'.cell? ⟨b, 1, none⟩ = some (.string p) ∧ w'.cell? ⟨b, 2, none⟩ = some (.string t)) (first | exact hD | assumption | exact keepP2 hbW (by assumption) (by assumption) | exact keepP2 hbW (by assumption) (below_new _ _))
      (first
        | (go_at_call 33; refine (implPathNames_any _ m _ (by first | exact hp | exact ht) ((unhide HM).below (And.left (by assumption))).1 ((unhide HM).below (And.left (by assumption))).2).mono ?_; rintro r w5 ⟨⟨v, ps, rfl, -, ho⟩, hb5⟩; obtain ⟨g2, e2, rfl, -, -, -⟩ := strsAt_own ho; clear ho)
        | (go_at_call 83; refine (cmpOr2_any _ _ _ _ _ (ints_two_new _ _ _ _)).mono ?_; rintro r w5 ⟨rfl, rfl⟩))
    rename_i hSF
    have HS := hide hSF.1
    clear hSF hD q1 q2
    go_wp2_with fail
    go_ret
    refine ⟨ret_int (unhide HV).symm, ?_⟩
    rw [unhide HBE]
    exact below_step (unhide HB0) (unhide HS) (by omega)
  have h5b : (k == 5) = false := by simpa using h5
  have HV : Hid (pathsCode k p t = pnCode p.data.toList) := by simp [Hid, pathsCode, h8, h5, or0_zero]
  clear h8 h5
  go_enter Tryd.func70, Tryd.ntmps70
  go_wp2_with fail
  rw [← hW]
  clear hW
  refine (implPathNames_any p m _ hp (unhide HM).1 (unhide HM).2).mono ?_
  rintro r w2 ⟨⟨v, ps, rfl, -, ho⟩, hb2⟩
  obtain ⟨g2, e2, rfl, -, -, -⟩ := strsAt_own ho
  clear ho
  have B2 := hide (below_step (unhide HB0) hb2 (by omega))
  clear hb2 HB0 HX0
  go_wp2_with fail
  go_ret
  exact ⟨ret_int (unhide HV).symm, unhide B2⟩
theorem opCode_top {k : Int} {p t : ByteArray} {d : Bool} {i : Int} {nl : List Int} (h : opForm k p t d i nl = true) : opCode k p t d i nl = or0 (pathsCode k p t) (if inB i 0 (topI k) = true then (if k = 2 then numsCode nl else 0) else 3) := by
  rw [opCode_yes h, pathsCode, or0_assoc]
  have e : inB i 0 (if k = 2 then 3 else 4) = inB i 0 (topI k) := by
    unfold topI
    by_cases h2 : k = 2
    · simp [h2]
    by_cases h3 : k = 3
    · simp [h3]
    rw [if_neg h2, if_neg h2, if_neg h3]
    have h0 : (i == 0) = true := by
      have hh := h
      unfold opForm at hh
      simp only [Bool.and_eq_true, Bool.or_eq_true] at hh
      rcases hh.1.2 with (h' | h') | h'
      · simp at h'; exact absurd h' h2
      · simp at h'; exact absurd h' h3
      · exact h'
    have : i = 0 := by simpa using h0
    subst this
    rfl
  rw [e]
end Go.Proofs.YtcmekhpphgkglaaDoor
