/-
  What spec.WordName and impl.WordName answer.
-/
import Derived.Test.YtiopofemelninaaGreatProg
import Derived.Test.YtiopofemelninaaGreatWordNameMath
import Derived.WalkKit
import Derived.WalkLawsBesides
import Derived.Laws.IdiomStrings
namespace Go.Proofs.YtiopofemelninaaGreat
open Go.RowKit

set_option maxHeartbeats 1000000 in
theorem l1WordName_any (n : Int) (w : World) (h0 : -9223372036854775808 ≤ n) (h1 : n ≤ 9223372036854775807) :
    Calls Tryz.prog 89 #[.int .i64 n] w fun e w' => e = .returned (.string ⟨(l1wn 7 n []).toArray⟩) ∧ Below w.heap.size w w' := by
  go_enter Tryz.func89, Tryz.ntmps89
  go_wp2
  go_loopw [3, 4] (fun o m wr => ∃ (f : Nat) (out : List UInt8) (v : Int), o = .string ⟨out.toArray⟩ ∧ m = .int .i64 v ∧ -9223372036854775808 ≤ v ∧ v ≤ 9223372036854775807 ∧ out.length + f = 7 ∧ out.length ≤ 6 ∧ Below w.heap.size w wr ∧ Hid (l1wn f v out = l1wn 7 n [])) (fun _ m _ => (intOf m).toNat)
  case atStart => exact ⟨7, [], n, rfl, rfl, h0, h1, rfl, by simp, Below.refl _ _, rfl⟩
  case round =>
    obtain ⟨f, out, v, rfl, rfl, v0, v1, hf, h6, hbw, HW⟩ := hrel
    obtain ⟨f, rfl⟩ : ∃ g, f = g + 1 := ⟨f - 1, by omega⟩
    by_cases hv : 0 < v
    · by_cases hz : v % 27 = 0
      · have hr : l1wn 7 n [] = [] := by rw [← unhide HW]; exact l1wn_no hv (.inl hz)
        have HR := hide hr
        have hz' : (v % 27 == 0) = true := by simpa using hz
        have HB := hide hbw
        clear hr hz hbw
        go_wp2
        go_ret
        exact ⟨ret_str (unhide HR).symm, unhide HB⟩
      · have hz' : (v % 27 == 0) = false := by simpa using hz
        by_cases h5 : 6 ≤ out.length
        · have hr : l1wn 7 n [] = [] := by rw [← unhide HW]; exact l1wn_no hv (.inr h5)
          have HR := hide hr
          have HB := hide hbw
          clear hr hz hbw
          have h5' : (6 : Int) ≤ out.length := by omega
          go_wp2
          go_ret
          exact ⟨ret_str (unhide HR).symm, unhide HB⟩
        · have h5' : ¬ (6 : Int) ≤ out.length := by omega
          have HB := hide hbw
          have hcv : (convert 22 9 (.slice (some ⟨wr.heap.size, 0, none⟩) 1 1)).run Tryz.prog (wr.alloc (.cells #[.int .u8 (97 + v % 27 - 1)] 5)) = .ok (.string ⟨#[letterB v]⟩) (wr.alloc (.cells #[.int .u8 (97 + v % 27 - 1)] 5)) := by
            have hx := run_convert_bytes_back (P := Tryz.prog) (wr.alloc (.cells #[.int .u8 (97 + v % 27 - 1)] 5)) 22 9 5 ⟨wr.heap.size, 0, none⟩ 1 [letterB v] Tryz.underlying22 Tryz.underlying5 Tryz.underlying9 (fun j hj => by
              obtain rfl : j = 0 := by simpa using hj
              simp only [List.getElem_cons_zero]
              rw [letterB_toNat]
              simp [Addr.add, go_sem])
            exact hx
          have hst := l1wn_step (f := f) (out := out) hv hz (by omega)
          have HS := hide (hst.symm.trans (unhide HW))
          clear hz hbw hst
          go_wp2
          exact ⟨⟨f, letterB v :: out, v / 27, by rw [push_letter], rfl, by omega, by omega, by simp; omega, by simp; omega, (unhide HB).alloc (unhide HB).size _, HS⟩, by simp [intOf]; omega⟩
    · have hr : l1wn 7 n [] = out := by rw [← unhide HW]; exact l1wn_end (by omega)
      have HR := hide hr
      have HB := hide hbw
      clear hr hbw
      go_wp2
      go_ret
      exact ⟨ret_str (unhide HR).symm, unhide HB⟩
theorem pow27_split (k : Nat) (v : Int) (h : v < 27 ^ (k + 1)) : v / 27 < 27 ^ k := by
  rw [Int.pow_succ] at h
  omega

set_option maxHeartbeats 1000000 in
theorem implWordName_any (n : Int) (w : World) :
    Calls Tryz.prog 143 #[.int .i64 n] w fun e w' => e = .returned (wnVal n) ∧ Below w.heap.size w w' := by
  by_cases h0 : n < 1
  · have hv : wnVal n = .agg #[.int .i64 5, .string ⟨#[]⟩] := by
      have : l1wn 7 n [] = [] := l1wn_end (by omega)
      simp [wnVal, this]
    have HV := hide hv
    clear hv
    go_enter Tryz.func143, Tryz.ntmps143
    go_wp2
    refine bodyPost_ret (v := .agg #[.int .i64 5, .string ⟨#[]⟩]) (by simp [results, Tryz.results143, go_sem]) rfl ⟨by rw [unhide HV], ?_⟩
    repeat (first | exact Below.refl _ _ | refine Below.alloc ?_ (by first | omega | (simp <;> omega)) _ | refine Below.setCell ?_ (by first | omega | (simp <;> omega)) _ | refine Below.drew ?_ | refine below_drewN ?_ _)
  by_cases h1 : 387420488 < n
  · have hv : wnVal n = .agg #[.int .i64 5, .string ⟨#[]⟩] := by
      have : l1wn 7 n [] = [] := l1wn_great 7 n [] rfl (by simp) (by show (387420489 : Int) ≤ n; omega)
      simp [wnVal, this]
    have HV := hide hv
    clear hv
    go_enter Tryz.func143, Tryz.ntmps143
    go_wp2
    refine bodyPost_ret (v := .agg #[.int .i64 5, .string ⟨#[]⟩]) (by simp [results, Tryz.results143, go_sem]) rfl ⟨by rw [unhide HV], ?_⟩
    repeat (first | exact Below.refl _ _ | refine Below.alloc ?_ (by first | omega | (simp <;> omega)) _ | refine Below.setCell ?_ (by first | omega | (simp <;> omega)) _ | refine Below.drew ?_ | refine below_drewN ?_ _)
  have hb0 : Below w.heap.size w (w.alloc (.cells #[.int .i64 0, .string ⟨#[]⟩] 216)) := (Below.refl _ _).alloc (Nat.le_refl _) _
  have HB := hide hb0
  clear hb0
  go_enter Tryz.func143, Tryz.ntmps143
  go_wp2
  go_loop [3, 4, 5] (fun o m _ => ∃ (f : Nat) (out : List UInt8) (v : Int), o = .string ⟨out.toArray⟩ ∧ m = .int .i64 v ∧ 0 ≤ v ∧ v ≤ 387420488 ∧ out.length + f = 7 ∧ out.length ≤ 6 ∧ Hid (v < 27 ^ (6 - out.length)) ∧ (out.length = 0 → 1 ≤ v) ∧ Hid (l1wn f v out = l1wn 7 n [])) (fun _ m _ => (intOf m).toNat)
  case atStart => exact ⟨7, [], n, rfl, rfl, by omega, by omega, rfl, by simp, (by show n < 387420489; omega), by intro _; omega, rfl⟩
  case round =>
    obtain ⟨f, out, v, rfl, rfl, v0, v1, hf, h6, HP, hne, HW⟩ := hrel
    obtain ⟨f, rfl⟩ : ∃ g, f = g + 1 := ⟨f - 1, by omega⟩
    by_cases hv : 0 < v
    · have h5 : out.length < 6 := by
        by_cases h5 : out.length < 6
        · exact h5
        · have hp := unhide HP
          rw [show 6 - out.length = 0 from by omega] at hp
          simp at hp
          omega
      by_cases hz : v % 27 = 0
      · have hr : wnVal n = .agg #[.int .i64 5, .string ⟨#[]⟩] := by
          have : l1wn 7 n [] = [] := by rw [← unhide HW]; exact l1wn_no hv (.inl hz)
          simp [wnVal, this]
        have HR := hide hr
        have hz' : (v % 27 == 0) = true := by simpa using hz
        clear hr hz hne
        go_wp2
        refine bodyPost_ret (v := .agg #[.int .i64 5, .string ⟨#[]⟩]) (by simp [results, Tryz.results143, go_sem]) rfl ⟨by rw [unhide HR], ?_⟩
        repeat (first | exact Below.refl _ _ | refine Below.alloc ?_ (by first | omega | (simp <;> omega)) _ | refine Below.setCell ?_ (by first | omega | (simp <;> omega)) _ | refine Below.drew ?_ | refine below_drewN ?_ _)
      · have hz' : (v % 27 == 0) = false := by simpa using hz
        have hst := l1wn_step (f := f) (out := out) hv hz h5
        have HS := hide (hst.symm.trans (unhide HW))
        have hen := encode_letter v
        have HP2 : Hid (v / 27 < 27 ^ (6 - (letterB v :: out).length)) := by
          have hp := unhide HP
          rw [show 6 - out.length = (6 - (letterB v :: out).length) + 1 from by simp; omega] at hp
          exact pow27_split _ _ hp
        clear hz hst hne
        go_wp2
        exact ⟨⟨f, letterB v :: out, v / 27, by rw [push_letter], rfl, by omega, by omega, by simp; omega, by simp; omega, HP2, by simp, HS⟩, by simp [intOf]; omega⟩
    · have hl : out ≠ [] := by
        intro h
        subst h
        have := hne rfl
        omega
      obtain ⟨b, t, rfl⟩ := List.exists_cons_of_ne_nil hl
      have hr : wnVal n = .agg #[.int .i64 0, .string ⟨(b :: t).toArray⟩] := by
        have : l1wn 7 n [] = b :: t := by rw [← unhide HW]; exact l1wn_end (by omega)
        simp [wnVal, this]
      have HR := hide hr
      clear hr hl hne
      go_wp2
      refine bodyPost_ret (v := .agg #[.int .i64 0, .string ⟨(b :: t).toArray⟩]) (by simp [results, Tryz.results143, go_sem]) rfl ⟨by rw [unhide HR], ?_⟩
      repeat (first | exact Below.refl _ _ | refine Below.alloc ?_ (by first | omega | (simp <;> omega)) _ | refine Below.setCell ?_ (by first | omega | (simp <;> omega)) _ | refine Below.drew ?_ | refine below_drewN ?_ _)
end Go.Proofs.YtiopofemelninaaGreat
