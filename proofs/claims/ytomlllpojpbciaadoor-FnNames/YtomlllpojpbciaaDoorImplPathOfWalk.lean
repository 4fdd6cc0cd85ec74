/-
  What impl.PathOf answers: the same as spec.PathOf.
-/
import Derived.Test.YtomlllpojpbciaaDoorPathOfWalk
import Derived.Test.YtomlllpojpbciaaDoorShelf
namespace Go.Proofs.YtomlllpojpbciaaDoor
open Go.RowKit

theorem join_path (l : List ByteArray) : 47 :: Lib.join (l.map (·.data.toList)) [47] = pathFull l := by
  cases l with
  | nil => simp [pathFull, Lib.join_nil]
  | cons x r =>
    rw [List.map_cons, Lib.join_cons, pathFull, if_neg (by simp), pathB, List.flatMap_cons]
    simp [Lib.joinTail, List.flatMap, List.map_map, Function.comp_def]

theorem pathFull_len (l : List ByteArray) (hs : ∀ s ∈ l, s.size ≤ 6) (hn : l.length ≤ 4) : (pathFull l).length ≤ 28 := by
  unfold pathFull
  split
  · simp
  · have := pathB_len l hs l.length (Nat.le_refl _)
    rw [List.take_of_length_le (Nat.le_refl _)] at this
    omega

theorem slash_cat (x : List UInt8) : (⟨#[47]⟩ ++ ⟨x.toArray⟩ : ByteArray) = ⟨(47 :: x).toArray⟩ := by
  rw [ByteArray.mk_append_mk]; simp

theorem join_any (a : Option Addr) (c : Nat) (l : List ByteArray) (w : World) (h : StrsAt w a l) (hcap : l.length ≤ c) (hs : ∀ s ∈ l, s.size ≤ 6) (hn : l.length ≤ 4) :
    Calls Tryd.prog 30 #[.slice a l.length c, .string ⟨#[47]⟩] w fun e w' => e = .returned (.string ⟨(Lib.join (l.map (·.data.toList)) [47]).toArray⟩) ∧ Below w.heap.size w w' := by
  rcases h with rfl | ⟨b, o, rfl, hlt, hc⟩
  · refine (Tryd.strings_Join_none a c ⟨#[47]⟩ w).mono ?_
    rintro e w' ⟨rfl, rfl⟩
    exact ⟨rfl, Below.refl _ _⟩
  · refine (Tryd.strings_Join b o c l ⟨#[47]⟩ w (fun j x hj => ?_) hlt (by omega) hcap ?_).mono ?_
    · obtain ⟨hj', rfl⟩ := List.getElem?_eq_some_iff.1 hj
      exact hc j hj'
    · have h1 := pathFull_len l hs hn
      rw [← join_path] at h1
      simp only [List.length_cons] at h1
      show (Lib.join (l.map (·.data.toList)) [47]).length ≤ _
      omega
    · rintro e w' ⟨rfl, hb⟩
      exact ⟨rfl, hb⟩

set_option maxHeartbeats 1000000 in
theorem implPathOf_any (a : Option Addr) (c : Nat) (l : List ByteArray) (w : World) (h : StrsAt w a l) (hs : ∀ s ∈ l, s.size ≤ maxLen) (hn : l.length ≤ maxLen) (hcap : l.length ≤ c) :
    Calls Tryd.prog 12 #[.slice a l.length c] w fun e w' => e = .returned (poVal l) ∧ Below w.heap.size w w' := by
  have hn' := hn
  unfold maxLen at hn'
  by_cases h4 : 4 < l.length
  · have HV := hide (poVal_many h4)
    have h4' : (4 : Int) < l.length := by omega
    clear hcap
    go_enter Tryd.func12, Tryd.ntmps12
    go_wp2
    refine bodyPost_ret (v := .agg #[.int .i64 2, .string ⟨#[]⟩]) (by simp [results, Tryd.results12, go_sem]) rfl ⟨by rw [unhide HV], ?_⟩
    repeat (first | exact Below.refl _ _ | refine Below.alloc ?_ (by first | omega | (simp <;> omega)) _ | refine Below.setCell ?_ (by first | omega | (simp <;> omega)) _ | refine Below.drew ?_ | refine below_drewN ?_ _)
  have h4' : ¬ (4 : Int) < l.length := by omega
  have H := hide h
  have HS := hide hs
  have HC := hide hcap
  clear h hs hcap
  cases hq : allNames l
  · have HV := hide (poVal_no h4 hq)
    go_enter Tryd.func12, Tryd.ntmps12
    go_wp2_with fail
    refine (areNames_any a c l _ ((unhide H).below ((Below.refl _ _).alloc (Nat.le_refl _) _)) (unhide HS) hn).mono ?_
    rintro e w1 ⟨rfl, hb1⟩
    rw [hq]
    have hz1 : w.heap.size < w1.heap.size := by have := hb1.size; simp at this; omega
    have q1 : ∀ j, w1.cell? ⟨w.heap.size, j, none⟩ = _ := fun j => (bcell hb1).1 _ j (by simp)
    have f1 : ∀ j, w1.frozen? ⟨w.heap.size, j, none⟩ = _ := fun j => (bcell hb1).2 _ j (by simp)
    have HB := hide hb1
    clear hb1 hq
    go_wp2_with fail
    refine bodyPost_ret (v := .agg #[.int .i64 5, .string ⟨#[]⟩]) (by simp [results, Tryd.results12, go_sem, q1]) rfl ⟨by rw [unhide HV], ?_⟩
    repeat (refine Below.setCell ?_ (by first | omega | (simp <;> omega)) _)
    refine below_step ?_ (unhide HB) (by simp)
    repeat (first | exact Below.refl _ _ | refine Below.alloc ?_ (by first | omega | (simp <;> omega)) _ | refine Below.setCell ?_ (by first | omega | (simp <;> omega)) _ | refine Below.drew ?_ | refine below_drewN ?_ _)
  · have HV := hide (poVal_yes h4 hq)
    have H6 : Hid (∀ s ∈ l, s.size ≤ 6) := fun s hs' => isNameL_len6 (allNames_at hq hs')
    have hpl := pathFull_len l (unhide H6) (by omega)
    rw [← join_path] at hpl
    simp only [List.length_cons] at hpl
    go_enter Tryd.func12, Tryd.ntmps12
    go_wp2_with fail
    refine (areNames_any a c l _ ((unhide H).below ((Below.refl _ _).alloc (Nat.le_refl _) _)) (unhide HS) hn).mono ?_
    rintro e w1 ⟨rfl, hb1⟩
    rw [hq]
    have hz1 : w.heap.size < w1.heap.size := by have := hb1.size; simp at this; omega
    have H1 := hide (((unhide H).below ((Below.refl _ _).alloc (Nat.le_refl _) _)).below hb1)
    have HB := hide hb1
    clear hb1 hq
    go_wp2_with fail
    refine (join_any a c l _ (unhide H1) (unhide HC) (unhide H6) (by omega)).mono ?_
    rintro e w2 ⟨rfl, hb2⟩
    have hz2 : w.heap.size < w2.heap.size := by have := hb2.size; omega
    have q2 : ∀ j, w2.cell? ⟨w.heap.size, j, none⟩ = _ := fun j => ((bcell hb2).1 _ j hz1).trans ((bcell (unhide HB)).1 _ j (by simp))
    have f2 : ∀ j, w2.frozen? ⟨w.heap.size, j, none⟩ = _ := fun j => ((bcell hb2).2 _ j hz1).trans ((bcell (unhide HB)).2 _ j (by simp))
    have HJ := hide (join_path l)
    have HB2 := hide hb2
    generalize Lib.join (l.map (·.data.toList)) [47] = x at *
    clear hb2
    go_wp2_with fail
    refine bodyPost_ret (v := .agg #[.int .i64 0, .string (⟨#[47]⟩ ++ ⟨x.toArray⟩)]) (by simp [results, Tryd.results12, go_sem, q2]) rfl ⟨by rw [unhide HV, slash_cat, unhide HJ], ?_⟩
    repeat (refine Below.setCell ?_ (by first | omega | (simp <;> omega)) _)
    refine below_step ?_ (unhide HB2) (by omega)
    refine below_step ?_ (unhide HB) (by simp)
    repeat (first | exact Below.refl _ _ | refine Below.alloc ?_ (by first | omega | (simp <;> omega)) _ | refine Below.setCell ?_ (by first | omega | (simp <;> omega)) _ | refine Below.drew ?_ | refine below_drewN ?_ _)
end Go.Proofs.YtomlllpojpbciaaDoor
