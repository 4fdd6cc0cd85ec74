/-
  What spec.PathOf and impl.PathOf answer.
-/
import Derived.Test.YtiopofemelninaaDoorIsNameWalk
import Derived.Test.YtiopofemelninaaDoorStrsMath
namespace Go.Proofs.YtiopofemelninaaDoor
open Go.RowKit

/-- Each name with a slash ahead of it. -/
def pathB (l : List ByteArray) : List UInt8 := l.flatMap (fun s => 47 :: s.data.toList)

/-- The path of names. -/
def pathFull (l : List ByteArray) : List UInt8 := if l = [] then [47] else pathB l

def allNames (l : List ByteArray) : Bool := l.all (fun s => isNameL s.data.toList)

/-- What PathOf tells. -/
def poVal (l : List ByteArray) : Value :=
  if 4 < l.length then .agg #[.int .i64 2, .string ⟨#[]⟩]
  else if allNames l = true then .agg #[.int .i64 0, .string ⟨(pathFull l).toArray⟩] else .agg #[.int .i64 5, .string ⟨#[]⟩]

theorem pathB_snoc (l : List ByteArray) (s : ByteArray) : pathB (l ++ [s]) = pathB l ++ 47 :: s.data.toList := by
  simp [pathB, List.flatMap_append]

theorem pathB_take (l : List ByteArray) (k : Nat) (h : k < l.length) : pathB (l.take (k + 1)) = pathB (l.take k) ++ 47 :: l[k].data.toList := by
  rw [List.take_succ_eq_append_getElem h, pathB_snoc]

theorem pathB_len (l : List ByteArray) (hs : ∀ s ∈ l, s.size ≤ 6) (k : Nat) (hk : k ≤ l.length) : (pathB (l.take k)).length ≤ 7 * k := by
  induction k with
  | zero => simp [pathB]
  | succ k ih =>
    have hlt : k < l.length := by omega
    have := ih (by omega)
    have h6 := hs l[k] (List.getElem_mem hlt)
    rw [pathB_take l k hlt]
    simp only [List.length_append, List.length_cons, len_data]
    omega

theorem cat2 (x : List UInt8) (s : ByteArray) : ((⟨x.toArray⟩ ++ ⟨#[47]⟩ : ByteArray) ++ s) = ⟨(x ++ 47 :: s.data.toList).toArray⟩ := by
  cases s with
  | mk d =>
    rw [ByteArray.mk_append_mk, ByteArray.mk_append_mk]
    congr 1
    apply Array.toList_inj.1
    simp

theorem allNames_at {l : List ByteArray} (h : allNames l = true) {s : ByteArray} (hs : s ∈ l) : isNameL s.data.toList = true := List.all_eq_true.1 h s hs

theorem isNameL_len6 {s : ByteArray} (h : isNameL s.data.toList = true) : s.size ≤ 6 := by
  rw [isNameL] at h
  simp only [Bool.and_eq_true, decide_eq_true_eq, len_data] at h
  exact h.1.2


theorem poVal_many {l : List ByteArray} (h : 4 < l.length) : poVal l = .agg #[.int .i64 2, .string ⟨#[]⟩] := by rw [poVal, if_pos h]
theorem poVal_no {l : List ByteArray} (h : ¬ 4 < l.length) (h2 : allNames l = false) : poVal l = .agg #[.int .i64 5, .string ⟨#[]⟩] := by
  rw [poVal, if_neg h, if_neg (by rw [h2]; decide)]
theorem poVal_yes {l : List ByteArray} (h : ¬ 4 < l.length) (h2 : allNames l = true) : poVal l = .agg #[.int .i64 0, .string ⟨(pathFull l).toArray⟩] := by
  rw [poVal, if_neg h, if_pos h2]

theorem allNames_false {l : List ByteArray} {k : Nat} (hk : k < l.length) (h : isNameL l[k].data.toList = false) : allNames l = false := by
  cases hq : allNames l
  · rfl
  · rw [allNames_at hq (List.getElem_mem hk)] at h; cases h

theorem allNames_of {l : List ByteArray} (h : ∀ j (hj : j < l.length), isNameL l[j].data.toList = true) : allNames l = true := by
  rw [allNames, List.all_eq_true]
  intro s hs
  obtain ⟨j, hj, rfl⟩ := List.getElem_of_mem hs
  exact h j hj


set_option maxHeartbeats 1000000 in
theorem areNames_any (a : Option Addr) (c : Nat) (l : List ByteArray) (w : World) (h : StrsAt w a l) (hs : ∀ s ∈ l, s.size ≤ maxLen) (hn : l.length ≤ maxLen) :
    Calls Tryd.prog 47 #[.slice a l.length c] w fun e w' => e = .returned (.bool (allNames l)) ∧ Below w.heap.size w w' := by
  unfold maxLen at hn
  go_enter Tryd.func47, Tryd.ntmps47
  go_wp2
  go_loopw [4, 7] (fun _ i wr => ∃ k : Nat, k ≤ l.length ∧ i = .int .i64 k ∧ Below w.heap.size w wr ∧ Hid (∀ j (hj : j < l.length), j < k → isNameL l[j].data.toList = true)) (fun _ i _ => l.length - (intOf i).toNat)
  case atStart => exact ⟨0, Nat.zero_le _, rfl, Below.refl _ _, fun j _ hj => absurd hj (Nat.not_lt_zero j)⟩
  case round =>
    obtain ⟨k, hk, rfl, hbw, HX⟩ := hrel
    by_cases hlt : k < l.length
    · obtain ⟨b, o, rfl, hb, hc⟩ := h.at hlt
      have hck : wr.cell? ⟨b, o + k, none⟩ = some (.string l[k]) := by
        rw [hbw.cell (p := ⟨b, o + k, none⟩) hb]
        exact hc k hlt
      have hsz := hs l[k] (List.getElem_mem hlt)
      have HB := hide hbw
      clear hc h hs hbw
      cases hq : isNameL l[k].data.toList
      · have HV := hide (allNames_false hlt hq)
        go_wp2_with fail
        refine (implIsName_any _ _ hsz).mono ?_
        rintro e w1 ⟨rfl, hw⟩
        have hb1 := below_iter hw
        clear hw
        rw [hq]
        go_wp2_with fail
        go_ret
        exact ⟨ret_bool (unhide HV).symm, below_step (unhide HB) hb1 (unhide HB).size⟩
      · have HQ := hide hq
        have HX2 : Hid (∀ j (hj : j < l.length), j < k + 1 → isNameL l[j].data.toList = true) := by
          intro j hj hj1
          by_cases e : j = k
          · subst e; exact hq
          · exact unhide HX j hj (by omega)
        clear hq
        go_wp2_with fail
        refine (implIsName_any _ _ hsz).mono ?_
        rintro e w1 ⟨rfl, hw⟩
        have hb1 := below_iter hw
        clear hw
        rw [unhide HQ]
        go_wp2_with fail
        go_roundw
        case rel => exact ⟨k + 1, by omega, by go_num, below_step (unhide HB) hb1 (unhide HB).size, HX2⟩
        case measure => simp [intOf]; omega
    · have hall : allNames l = true := allNames_of (fun j hj => unhide HX j hj (by omega))
      have HA := hide hall
      have HB := hide hbw
      clear hall hbw
      go_wp2
      go_ret
      exact ⟨ret_bool (unhide HA).symm, unhide HB⟩
end Go.Proofs.YtiopofemelninaaDoor
