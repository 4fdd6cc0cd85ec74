/-
  What spec.WordHead and impl.WordHead answer.
-/
import Derived.Test.YtiopofemelninaaGreatHeadWordWalk
import Derived.Deep.RegionWith
namespace Go.Proofs.YtiopofemelninaaGreat
open Go.RowKit

/-- The head of a word, field by field (where it is one). -/
def whOk (n : Int) : Bool := inB n 0 999999999999999 && headOk (n % 4) (n / 16 % 1000) (n / 4 % 4) (n / 16000)

/-- What WordHead tells. -/
def whVal (n : Int) : Value :=
  if whOk n = true then .agg #[.int .i64 0, .int .i64 (n % 4), .int .i64 (n / 16 % 1000), .int .i64 (n / 4 % 4), .int .i64 (n / 16000)]
  else .agg #[.int .i64 1, .int .i64 0, .int .i64 0, .int .i64 0, .int .i64 0]

theorem l1WordIn_any (n : Int) (w : World) :
    Calls Tryz.prog 40 #[.int .i64 n] w fun r w' => r = .returned (.bool (inB n 0 999999999999999)) ∧ w' = w := by
  go_enter Tryz.func40, Tryz.ntmps40
  go_wp2_with fail
  refine (l1In_any _ _ _ _).mono ?_
  rintro r w' ⟨rfl, rfl⟩
  go_wp2_with fail
  go_ret
  exact ⟨rfl, rfl⟩
set_option maxHeartbeats 1000000 in
theorem l1Head_no (n : Int) (w : World) (h : inB n 0 999999999999999 = false) :
    Calls Tryz.prog 60 #[.int .i64 n] w fun r w' => r = .returned (.tuple #[.agg #[.int .i64 0, .int .i64 0, .int .i64 0, .int .i64 0], .bool false]) ∧ Below w.heap.size w w' := by
  go_enter Tryz.func60, Tryz.ntmps60
  go_wp2_with fail
  refine (l1WordIn_any _ _).mono ?_
  rintro r w' ⟨rfl, rfl⟩
  go_wp2_with fail
  refine bodyPost_ret (v := .tuple #[.agg #[.int .i64 0, .int .i64 0, .int .i64 0, .int .i64 0], .bool false]) (by simp [results, Tryz.results60, go_sem]) rfl ⟨rfl, ?_⟩
  repeat (first | exact Below.refl _ _ | refine Below.alloc ?_ (by first | omega | (simp <;> omega)) _ | refine Below.setCell ?_ (by first | omega | (simp <;> omega)) _ | refine below_drewN ?_ _)
set_option maxHeartbeats 1000000 in
theorem l1Head_yes (n : Int) (w : World) (h : inB n 0 999999999999999 = true) :
    Calls Tryz.prog 60 #[.int .i64 n] w fun r w' => r = .returned (.tuple #[.agg #[.int .i64 (n % 4), .int .i64 (n / 16 % 1000), .int .i64 (n / 4 % 4), .int .i64 (n / 16000)], .bool (headOk (n % 4) (n / 16 % 1000) (n / 4 % 4) (n / 16000))]) ∧ Below w.heap.size w w' := by
  obtain ⟨h1, h2⟩ := inB_true.1 h
  go_enter Tryz.func60, Tryz.ntmps60
  go_wp2_with fail
  refine (l1WordIn_any _ _).mono ?_
  rintro r w' ⟨rfl, rfl⟩
  go_wp2_with fail
  go_region_with (go_at_call 88; refine (specHeadFault_any _ _ _ _ _).mono ?_; rintro r w' ⟨rfl, c, t, rfl⟩)
  all_goals go_wp2
  all_goals refine bodyPost_ret (v := .tuple #[.agg #[.int .i64 (n % 4), .int .i64 (n / 16 % 1000), .int .i64 (n / 4 % 4), .int .i64 (n / 16000)], .bool (headCode (n % 4) (n / 16 % 1000) (n / 4 % 4) (n / 16000) == 0)]) (by simp [results, Tryz.results60, go_sem]) rfl ⟨by rw [headCode_eq0], ?_⟩
  all_goals repeat (first | exact Below.refl _ _ | refine Below.alloc ?_ (by first | omega | (simp <;> omega)) _ | refine Below.setCell ?_ (by first | omega | (simp <;> omega)) _ | refine Below.drew ?_ | refine below_drewN ?_ _)
theorem whOk_small {n : Int} (h : whOk n = true) : 0 ≤ n ∧ n ≤ 159999999 := by
  simp only [whOk, Bool.and_eq_true] at h
  have h1 := inB_true.1 h.1
  have h2 := headOk_bounds h.2
  omega

theorem mark_fields (n : Int) (_h1 : 0 ≤ n) (_h2 : n ≤ 159999999) : n % 16000 % 4 = n % 4 ∧ n % 16000 / 16 = n / 16 % 1000 ∧ n % 16000 / 4 % 4 = n / 4 % 4 := by omega

set_option maxHeartbeats 2000000 in
theorem implWordHead_any (n : Int) (w : World) :
    Calls Tryz.prog 81 #[.int .i64 n] w fun r w' => r = .returned (whVal n) ∧ Below w.heap.size w w' := by
  cases h : inB n 0 159999999
  · have hv : whVal n = .agg #[.int .i64 1, .int .i64 0, .int .i64 0, .int .i64 0, .int .i64 0] := by
      have hno : whOk n = false := by
        cases hq : whOk n
        · rfl
        · have := whOk_small hq
          exact absurd (inB_true.2 this) (by rw [h]; decide)
      simp [whVal, hno]
    have HV := hide hv
    clear hv
    go_enter Tryz.func81, Tryz.ntmps81
    go_wp2_with (go_at_call 39; refine (isWithin_any _ _ _ _).mono ?_; rintro e w' ⟨rfl, rfl⟩)
    refine bodyPost_ret (v := .agg #[.int .i64 1, .int .i64 0, .int .i64 0, .int .i64 0, .int .i64 0]) (by simp [results, Tryz.results81, go_sem]) rfl ⟨by rw [unhide HV], ?_⟩
    repeat (first | exact Below.refl _ _ | refine Below.alloc ?_ (by first | omega | (simp <;> omega)) _ | refine Below.setCell ?_ (by first | omega | (simp <;> omega)) _ | refine Below.drew ?_ | refine below_drewN ?_ _)
  obtain ⟨h1, h2⟩ := inB_true.1 h
  have hin : inB n 0 999999999999999 = true := inB_true.2 (by omega)
  obtain ⟨f1, f2, f3⟩ := mark_fields n h1 h2
  have F1 := hide f1
  have F2 := hide f2
  have F3 := hide f3
  clear f1 f2 f3
  cases hok : headOk (n % 4) (n / 16 % 1000) (n / 4 % 4) (n / 16000)
  · have hv : whVal n = .agg #[.int .i64 1, .int .i64 0, .int .i64 0, .int .i64 0, .int .i64 0] := by simp [whVal, whOk, hok]
    have hcd : headCode (n % 4) (n / 16 % 1000) (n / 4 % 4) (n / 16000) = 3 := headCode_three hok
    have HV := hide hv
    have HC := hide hcd
    clear hv hcd hok
    go_enter Tryz.func81, Tryz.ntmps81
    go_wp2_with (go_at_call 39; refine (isWithin_any _ _ _ _).mono ?_; rintro e w' ⟨rfl, rfl⟩)
    refine (wordMark_any n _ h1 h2).mono ?_
    rintro r w1 ⟨rfl, rfl⟩
    go_wp2_with fail
    refine (markHead_any _ _ _ (by omega) (by omega) (by omega) (by omega)).mono ?_
    rintro r w1 ⟨rfl, hb1⟩
    have hz1 : w.heap.size < w1.heap.size := by have := hb1.size; simp at this; omega
    have hc1 := (bcell hb1).1
    have hf1 := (bcell hb1).2
    have HB1 := hide hb1
    clear hb1
    rw [unhide F1, unhide F2, unhide F3]
    go_wp2_with fail
    refine (implHeadFault_any _ _ _ _ _).mono ?_
    rintro r w2 ⟨rfl, hb2⟩
    rw [unhide HC]
    have hz2 : w1.heap.size < w2.heap.size := by have := hb2.size; simp at this; omega
    have hy2 : w.heap.size < w2.heap.size := by omega
    have q2 : ∀ j, w2.cell? ⟨w.heap.size, j, none⟩ = w1.cell? ⟨w.heap.size, j, none⟩ := fun j => by
      rw [(bcell hb2).1 _ _ (by simp; omega)]
      go_simp
    have f2 : ∀ j, w2.frozen? ⟨w.heap.size, j, none⟩ = w1.frozen? ⟨w.heap.size, j, none⟩ := fun j => by
      rw [(bcell hb2).2 _ _ (by simp; omega)]
      go_simp
    have hc2 := (bcell hb2).1
    have HB2 := hide hb2
    clear hb2
    go_wp2_with fail
    refine bodyPost_ret (v := .agg #[.int .i64 1, .int .i64 0, .int .i64 0, .int .i64 0, .int .i64 0]) (by simp [results, Tryz.results81, go_sem, q2, hc1]) rfl ⟨by rw [unhide HV], ?_⟩
    repeat (first | refine Below.alloc ?_ (by first | omega | (simp <;> omega)) _ | refine Below.setCell ?_ (by first | omega | (simp <;> omega)) _)
    refine below_step ?_ (unhide HB2) (by first | omega | (simp <;> omega))
    repeat (first | refine Below.alloc ?_ (by first | omega | (simp <;> omega)) _ | refine Below.setCell ?_ (by first | omega | (simp <;> omega)) _)
    refine below_step ?_ (unhide HB1) (by first | omega | (simp <;> omega))
    repeat (first | exact Below.refl _ _ | refine Below.alloc ?_ (by first | omega | (simp <;> omega)) _ | refine Below.setCell ?_ (by first | omega | (simp <;> omega)) _ | refine Below.drew ?_ | refine below_drewN ?_ _)
  · have hv : whVal n = .agg #[.int .i64 0, .int .i64 (n % 4), .int .i64 (n / 16 % 1000), .int .i64 (n / 4 % 4), .int .i64 (n / 16000)] := by simp [whVal, whOk, hok, hin]
    have hcd : headCode (n % 4) (n / 16 % 1000) (n / 4 % 4) (n / 16000) = 0 := headCode_zero hok
    have HV := hide hv
    have HC := hide hcd
    clear hv hcd hok
    go_enter Tryz.func81, Tryz.ntmps81
    go_wp2_with (go_at_call 39; refine (isWithin_any _ _ _ _).mono ?_; rintro e w' ⟨rfl, rfl⟩)
    refine (wordMark_any n _ h1 h2).mono ?_
    rintro r w1 ⟨rfl, rfl⟩
    go_wp2_with fail
    refine (markHead_any _ _ _ (by omega) (by omega) (by omega) (by omega)).mono ?_
    rintro r w1 ⟨rfl, hb1⟩
    have hz1 : w.heap.size < w1.heap.size := by have := hb1.size; simp at this; omega
    have hc1 := (bcell hb1).1
    have hf1 := (bcell hb1).2
    have HB1 := hide hb1
    clear hb1
    rw [unhide F1, unhide F2, unhide F3]
    go_wp2_with fail
    refine (implHeadFault_any _ _ _ _ _).mono ?_
    rintro r w2 ⟨rfl, hb2⟩
    rw [unhide HC]
    have hz2 : w1.heap.size < w2.heap.size := by have := hb2.size; simp at this; omega
    have hy2 : w.heap.size < w2.heap.size := by omega
    have q2 : ∀ j, w2.cell? ⟨w.heap.size, j, none⟩ = w1.cell? ⟨w.heap.size, j, none⟩ := fun j => by
      rw [(bcell hb2).1 _ _ (by simp; omega)]
      go_simp
    have f2 : ∀ j, w2.frozen? ⟨w.heap.size, j, none⟩ = w1.frozen? ⟨w.heap.size, j, none⟩ := fun j => by
      rw [(bcell hb2).2 _ _ (by simp; omega)]
      go_simp
    have hc2 := (bcell hb2).1
    have HB2 := hide hb2
    clear hb2
    go_wp2_with fail
    refine bodyPost_ret (v := .agg #[.int .i64 0, .int .i64 (n % 4), .int .i64 (n / 16 % 1000), .int .i64 (n / 4 % 4), .int .i64 (n / 16000)]) (by simp [results, Tryz.results81, go_sem, q2, hc1]) rfl ⟨by rw [unhide HV], ?_⟩
    repeat (first | refine Below.alloc ?_ (by first | omega | (simp <;> omega)) _ | refine Below.setCell ?_ (by first | omega | (simp <;> omega)) _)
    refine below_step ?_ (unhide HB2) (by first | omega | (simp <;> omega))
    repeat (first | refine Below.alloc ?_ (by first | omega | (simp <;> omega)) _ | refine Below.setCell ?_ (by first | omega | (simp <;> omega)) _)
    refine below_step ?_ (unhide HB1) (by first | omega | (simp <;> omega))
    repeat (first | exact Below.refl _ _ | refine Below.alloc ?_ (by first | omega | (simp <;> omega)) _ | refine Below.setCell ?_ (by first | omega | (simp <;> omega)) _ | refine Below.drew ?_ | refine below_drewN ?_ _)
end Go.Proofs.YtiopofemelninaaGreat
