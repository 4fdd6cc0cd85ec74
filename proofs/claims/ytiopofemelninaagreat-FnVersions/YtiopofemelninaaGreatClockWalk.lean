/-
  What impl.ClockOf and spec.ClockOf answer.
-/
import Derived.Test.YtiopofemelninaaGreatWordsWalk
namespace Go.Proofs.YtiopofemelninaaGreat
open Go.RowKit
set_option linter.unusedVariables false

def clockCode (l : List Int) : Int := if wordsCode l = 0 then (if l.getD 0 0 = 691691691 then (if inB (l.getD 1 0) 2 9999 = true then 0 else 3) else 8) else wordsCode l
def clockVal (l : List Int) : Int := if clockCode l = 0 then l.getD 1 0 else 0
theorem wordsCode_ok {l : List Int} (h : wordsCode l = 0) : sizeOk l.length = true ∧ allWords l = true := by
  unfold wordsCode at h
  split at h
  · rename_i h1
    split at h
    · rename_i h2; exact ⟨h1, h2⟩
    · cases h
  · cases h
theorem clock_cases (l : List Int) : (wordsCode l ≠ 0 ∧ clockCode l = wordsCode l ∧ clockVal l = 0) ∨ (wordsCode l = 0 ∧ ((l.getD 0 0 ≠ 691691691 ∧ clockCode l = 8 ∧ clockVal l = 0) ∨ (l.getD 0 0 = 691691691 ∧ ((inB (l.getD 1 0) 2 9999 = false ∧ clockCode l = 3 ∧ clockVal l = 0) ∨ (inB (l.getD 1 0) 2 9999 = true ∧ clockCode l = 0 ∧ clockVal l = l.getD 1 0))))) := by
  by_cases h1 : wordsCode l = 0
  · right
    refine ⟨h1, ?_⟩
    by_cases h2 : l.getD 0 0 = 691691691
    · right
      refine ⟨h2, ?_⟩
      cases h3 : inB (l.getD 1 0) 2 9999
      · left
        have hc : clockCode l = 3 := by unfold clockCode; rw [if_pos h1, if_pos h2, h3]; rfl
        exact ⟨rfl, hc, by unfold clockVal; rw [hc]; rfl⟩
      · right
        have hc : clockCode l = 0 := by unfold clockCode; rw [if_pos h1, if_pos h2, h3]; rfl
        exact ⟨rfl, hc, by unfold clockVal; rw [if_pos hc]⟩
    · left
      have hc : clockCode l = 8 := by unfold clockCode; rw [if_pos h1, if_neg h2]
      exact ⟨h2, hc, by unfold clockVal; rw [hc]; rfl⟩
  · left
    have hc : clockCode l = wordsCode l := by unfold clockCode; rw [if_neg h1]
    exact ⟨h1, hc, by unfold clockVal; rw [if_neg (by rw [hc]; exact h1)]⟩
theorem head_cells {w : World} {a : Option Addr} {l : List Int} (h : IntsAt w a l) (hs : sizeOk l.length = true) : ∃ b o, a = some ⟨b, o, none⟩ ∧ b < w.heap.size ∧ w.cell? ⟨b, o, none⟩ = some (.int .i64 (l.getD 0 0)) ∧ w.cell? ⟨b, o + 1, none⟩ = some (.int .i64 (l.getD 1 0)) := by
  have hz : 16 ≤ l.length := by simp [sizeOk] at hs; omega
  obtain ⟨b, o, e, hb, hc⟩ := h.at (k := 0) (by omega)
  have c0 := hc 0 (by omega)
  have c1 := hc 1 (by omega)
  refine ⟨b, o, e, hb, ?_, ?_⟩
  · rw [Nat.add_zero] at c0; rw [c0]; simp [List.getD_eq_getElem?_getD, List.getElem?_eq_getElem (show 0 < l.length by omega)]
  · rw [c1]; simp [List.getD_eq_getElem?_getD, List.getElem?_eq_getElem (show 1 < l.length by omega)]

set_option maxRecDepth 20000 in
set_option maxHeartbeats 1000000 in
theorem implClockOf_any (a : Option Addr) (c : Nat) (l : List Int) (w : World) (h : IntsAt w a l) (hn : l.length ≤ 1048576) :
    Calls Tryz.prog 12 #[.slice a l.length c] w fun e w' => e = .returned (.agg #[.int .i64 (clockCode l), .int .i64 (clockVal l)]) ∧ Below w.heap.size w w' := by
  have H := hide h
  clear h
  go_enter Tryz.func12, Tryz.ntmps12
  go_wp2_with fail
  obtain ⟨W, hW, z1, hb, hx⟩ := boxes1 w [.int .i64 0, .int .i64 0] 37
  rw [← hW]
  clear hW
  refine (wordsFault_any a c l _ ((unhide H).below (unhide hb)) hn).mono ?_
  rintro e w2 ⟨rfl, rfl⟩
  have y0 := (unhide hx).cell 0
  have y1 := (unhide hx).cell 1
  have f0 := (unhide hx).frozen 0
  have f1 := (unhide hx).frozen 1
  simp at y0 y1
  rcases clock_cases l with ⟨hk, hC, hV⟩ | ⟨hk0, hk⟩
  · have hkb : (wordsCode l != 0) = true := by simpa using hk
    have HC : Hid (clockCode l = wordsCode l ∧ clockVal l = 0) := ⟨hC, hV⟩
    clear hk hC hV
    generalize wordsCode l = q at *
    go_wp2_with fail
    clear y0 y1 f0 f1
    generalize hU : (w2.setCell _ _).setCell _ _ = U
    obtain ⟨XU, OU⟩ := store2' (unhide hx) hU
    have t0 := (unhide XU).cell 0
    have t1 := (unhide XU).cell 1
    simp at t0 t1
    refine bodyPost_ret (v := .agg #[.int .i64 q, .int .i64 0]) (by simp [results, Tryz.results12, go_sem, t0, t1]) rfl ⟨?_, ?_⟩
    · rw [(unhide HC).1, (unhide HC).2]
    · exact (unhide OU).below (unhide hb) (Nat.le_refl _) (fun q hq e => by omega)
  have HS := hide (wordsCode_ok hk0).1
  rw [hk0]
  clear hk0
  obtain ⟨b, o, ea, hbl, hc0, hc1⟩ := head_cells ((unhide H).below (unhide hb)) (unhide HS)
  subst ea
  have n1 : (1 : Int) < l.length := by have := unhide HS; simp [sizeOk] at this; omega
  have n0 : (0 : Int) < l.length := by omega
  generalize l.getD 0 0 = m0 at *
  generalize l.getD 1 0 = m1 at *
  rcases hk with ⟨hm, hC, hV⟩ | ⟨hm, ⟨hi, hC, hV⟩ | ⟨hi, hC, hV⟩⟩
  · have hmb : (m0 != 691691691) = true := by simpa using hm
    have HC : Hid (clockCode l = 8 ∧ clockVal l = 0) := ⟨hC, hV⟩
    clear hm hC hV
    go_wp2_with fail
    clear y0 y1 f0 f1
    generalize hU : (w2.setCell _ _).setCell _ _ = U
    obtain ⟨XU, OU⟩ := store2' (unhide hx) hU
    have t0 := (unhide XU).cell 0
    have t1 := (unhide XU).cell 1
    simp at t0 t1
    refine bodyPost_ret (v := .agg #[.int .i64 8, .int .i64 0]) (by simp [results, Tryz.results12, go_sem, t0, t1]) rfl ⟨?_, ?_⟩
    · rw [(unhide HC).1, (unhide HC).2]
    · exact (unhide OU).below (unhide hb) (Nat.le_refl _) (fun q hq e => by omega)
  · have HC : Hid (clockCode l = 3 ∧ clockVal l = 0) := ⟨hC, hV⟩
    subst hm
    clear hC hV
    go_wp2_with fail
    refine (isWithin_any _ _ _ _).mono ?_
    rintro e w3 ⟨rfl, rfl⟩
    rw [hi]
    go_wp2_with fail
    clear y0 y1 f0 f1
    generalize hU : (w3.setCell _ _).setCell _ _ = U
    obtain ⟨XU, OU⟩ := store2' (unhide hx) hU
    have t0 := (unhide XU).cell 0
    have t1 := (unhide XU).cell 1
    simp at t0 t1
    refine bodyPost_ret (v := .agg #[.int .i64 3, .int .i64 0]) (by simp [results, Tryz.results12, go_sem, t0, t1]) rfl ⟨?_, ?_⟩
    · rw [(unhide HC).1, (unhide HC).2]
    · exact (unhide OU).below (unhide hb) (Nat.le_refl _) (fun q hq e => by omega)
  · have HC : Hid (clockCode l = 0 ∧ clockVal l = m1) := ⟨hC, hV⟩
    subst hm
    clear hC hV
    go_wp2_with fail
    refine (isWithin_any _ _ _ _).mono ?_
    rintro e w3 ⟨rfl, rfl⟩
    rw [hi]
    go_wp2_with fail
    clear y0 y1 f0 f1
    generalize hU : (w3.setCell _ _).setCell _ _ = U
    obtain ⟨XU, OU⟩ := store2' (unhide hx) hU
    have t0 := (unhide XU).cell 0
    have t1 := (unhide XU).cell 1
    simp at t0 t1
    refine bodyPost_ret (v := .agg #[.int .i64 0, .int .i64 m1]) (by simp [results, Tryz.results12, go_sem, t0, t1]) rfl ⟨?_, ?_⟩
    · rw [(unhide HC).1, (unhide HC).2]
    · exact (unhide OU).below (unhide hb) (Nat.le_refl _) (fun q hq e => by omega)
set_option maxRecDepth 20000 in
set_option maxHeartbeats 2000000 in
theorem specClockOf_any (a : Option Addr) (c : Nat) (l : List Int) (w : World) (h : IntsAt w a l) (hn : l.length ≤ 1048576) :
    Calls Tryz.prog 13 #[.slice a l.length c] w fun e w' => e = .returned (.agg #[.int .i64 (clockCode l), .int .i64 (clockVal l)]) ∧ Below w.heap.size w w' := by
  have htm : (l.length : Int).tmod 8 = (l.length : Int) % 8 := Int.tmod_eq_emod_of_nonneg (by omega)
  by_cases hs : sizeOk l.length = true
  case neg =>
    have hw2 : wordsCode l = 2 := by unfold wordsCode; rw [if_neg hs]
    have HC : Hid (clockCode l = 2 ∧ clockVal l = 0) := by
      rcases clock_cases l with ⟨_, h1, h2⟩ | ⟨h1, _⟩
      · exact ⟨by rw [h1, hw2], h2⟩
      · rw [hw2] at h1; cases h1
    have hs' : ¬ (l.length % 8 = 0 ∧ 16 ≤ l.length ∧ l.length ≤ 328) := by
      intro hh
      exact hs (by simp [sizeOk]; omega)
    clear h hw2
    by_cases hm : (l.length : Int) % 8 = 0
    · have hmb : ((l.length : Int) % 8 != 0) = false := by simpa using hm
      by_cases h16 : (l.length : Int) < 16
      · clear hs hs' hm
        go_enter Tryz.func13, Tryz.ntmps13
        go_wp2
        refine bodyPost_ret (v := .agg #[.int .i64 2, .int .i64 0]) (by simp [results, Tryz.results13, go_sem]) rfl ⟨?_, ?_⟩
        · rw [(unhide HC).1, (unhide HC).2]
        · repeat (first | exact Below.refl _ _ | (with_reducible refine Below.alloc ?_ ?_ _; rotate_left; first | omega | (simp <;> omega)) | (with_reducible refine Below.setCell ?_ ?_ _; rotate_left; first | omega | (simp <;> omega)))
      · have h328 : (328 : Int) < (l.length : Int) := by omega
        clear hs hs' hm
        go_enter Tryz.func13, Tryz.ntmps13
        go_wp2
        refine bodyPost_ret (v := .agg #[.int .i64 2, .int .i64 0]) (by simp [results, Tryz.results13, go_sem]) rfl ⟨?_, ?_⟩
        · rw [(unhide HC).1, (unhide HC).2]
        · repeat (first | exact Below.refl _ _ | (with_reducible refine Below.alloc ?_ ?_ _; rotate_left; first | omega | (simp <;> omega)) | (with_reducible refine Below.setCell ?_ ?_ _; rotate_left; first | omega | (simp <;> omega)))
    · have hmb : ((l.length : Int) % 8 != 0) = true := by simpa using hm
      clear hs hs' hm
      go_enter Tryz.func13, Tryz.ntmps13
      go_wp2
      refine bodyPost_ret (v := .agg #[.int .i64 2, .int .i64 0]) (by simp [results, Tryz.results13, go_sem]) rfl ⟨?_, ?_⟩
      · rw [(unhide HC).1, (unhide HC).2]
      · repeat (first | exact Below.refl _ _ | (with_reducible refine Below.alloc ?_ ?_ _; rotate_left; first | omega | (simp <;> omega)) | (with_reducible refine Below.setCell ?_ ?_ _; rotate_left; first | omega | (simp <;> omega)))
  have hsz : (l.length : Int) % 8 = 0 ∧ 16 ≤ l.length ∧ l.length ≤ 328 := by simp [sizeOk] at hs; omega
  have hmb : ((l.length : Int) % 8 != 0) = false := by simpa using hsz.1
  have h16 : ¬ (l.length : Int) < 16 := by omega
  have h328 : ¬ (328 : Int) < (l.length : Int) := by omega
  have HS := hide hs
  clear hsz hs
  have H := hide h
  clear h
  go_enter Tryz.func13, Tryz.ntmps13
  go_wp2_with fail
  obtain ⟨W, hW, z1, hb, hx⟩ := boxes1 w [.int .i64 0, .int .i64 0] 37
  rw [← hW]
  clear hW
  have y0 := (unhide hx).cell 0
  have y1 := (unhide hx).cell 1
  have f0 := (unhide hx).frozen 0
  have f1 := (unhide hx).frozen 1
  simp at y0 y1
  have HI := hide ((unhide H).below (unhide hb))
  go_loop [4] (fun i => ∃ k : Nat, k ≤ l.length ∧ i = .int .i64 k ∧ Hid (∀ j (hj : j < l.length), j < k → wordOk l[j] = true)) (fun i => l.length - (intOf i).toNat)
  case atStart => exact ⟨0, Nat.zero_le _, rfl, fun j _ hj => absurd hj (Nat.not_lt_zero j)⟩
  case round =>
    obtain ⟨k, hk, rfl, HX⟩ := hrel
    by_cases hlt : k < l.length
    · obtain ⟨b, o, rfl, hb', hc⟩ := (unhide HI).at hlt
      have hck := hc k hlt
      clear hc
      cases hq : wordOk l[k]
      · have HC : Hid (clockCode l = 3 ∧ clockVal l = 0) := by
          have hw3 : wordsCode l = 3 := by unfold wordsCode; rw [if_pos (unhide HS), if_neg (by rw [allW_false hlt hq]; decide)]
          rcases clock_cases l with ⟨_, h1, h2⟩ | ⟨h1, _⟩
          · exact ⟨by rw [h1, hw3], h2⟩
          · rw [hw3] at h1; cases h1
        go_wp2_with fail
        refine (l1Word_any _ _).mono ?_
        rintro e w1 ⟨rfl, rfl⟩
        rw [hq]
        go_wp2_with fail
        clear y0 y1 f0 f1
        generalize hU : (w1.setCell _ _).setCell _ _ = U
        obtain ⟨XU, OU⟩ := store2' (unhide hx) hU
        have t0 := (unhide XU).cell 0
        have t1 := (unhide XU).cell 1
        simp at t0 t1
        refine bodyPost_ret (v := .agg #[.int .i64 3, .int .i64 0]) (by simp [results, Tryz.results13, go_sem, t0, t1]) rfl ⟨?_, ?_⟩
        · rw [(unhide HC).1, (unhide HC).2]
        · exact (unhide OU).below (unhide hb) (Nat.le_refl _) (fun q hq e => by omega)
      · have HX2 : Hid (∀ j (hj : j < l.length), j < k + 1 → wordOk l[j] = true) := by
          intro j hj hj1
          by_cases e : j = k
          · subst e; exact hq
          · exact unhide HX j hj (by omega)
        go_wp2_with fail
        refine (l1Word_any _ _).mono ?_
        rintro e w1 ⟨rfl, rfl⟩
        rw [hq]
        clear hq
        go_wp2_with fail
        go_round
        case rel => exact ⟨k + 1, by omega, by go_num, HX2⟩
        case measure => simp [intOf]; omega
    · have hw0 : wordsCode l = 0 := by unfold wordsCode; rw [if_pos (unhide HS), if_pos (allW_true (fun j hj => unhide HX j hj (by omega)))]
      rcases clock_cases l with ⟨hk9, _⟩ | ⟨_, hk⟩
      · exact absurd hw0 hk9
      clear HX hw0 HI
      obtain ⟨b, o, ea, hbl, hc0, hc1⟩ := head_cells ((unhide H).below (unhide hb)) (unhide HS)
      subst ea
      have n1 : (1 : Int) < l.length := by have := unhide HS; simp [sizeOk] at this; omega
      have n0 : (0 : Int) < l.length := by omega
      generalize l.getD 0 0 = m0 at *
      generalize l.getD 1 0 = m1 at *
      rcases hk with ⟨hm, hC, hV⟩ | ⟨hm, ⟨hi, hC, hV⟩ | ⟨hi, hC, hV⟩⟩
      · have hmb : (m0 != 691691691) = true := by simpa using hm
        have HC : Hid (clockCode l = 8 ∧ clockVal l = 0) := ⟨hC, hV⟩
        clear hm hC hV
        go_wp2_with fail
        clear y0 y1 f0 f1
        generalize hU : (W.setCell _ _).setCell _ _ = U
        obtain ⟨XU, OU⟩ := store2' (unhide hx) hU
        have t0 := (unhide XU).cell 0
        have t1 := (unhide XU).cell 1
        simp at t0 t1
        refine bodyPost_ret (v := .agg #[.int .i64 8, .int .i64 0]) (by simp [results, Tryz.results13, go_sem, t0, t1]) rfl ⟨?_, ?_⟩
        · rw [(unhide HC).1, (unhide HC).2]
        · exact (unhide OU).below (unhide hb) (Nat.le_refl _) (fun q hq e => by omega)
      · have HC : Hid (clockCode l = 3 ∧ clockVal l = 0) := ⟨hC, hV⟩
        subst hm
        clear hC hV
        go_wp2_with fail
        refine (l1In_any _ _ _ _).mono ?_
        rintro e w3 ⟨rfl, rfl⟩
        rw [hi]
        go_wp2_with fail
        clear y0 y1 f0 f1
        generalize hU : (w3.setCell _ _).setCell _ _ = U
        obtain ⟨XU, OU⟩ := store2' (unhide hx) hU
        have t0 := (unhide XU).cell 0
        have t1 := (unhide XU).cell 1
        simp at t0 t1
        refine bodyPost_ret (v := .agg #[.int .i64 3, .int .i64 0]) (by simp [results, Tryz.results13, go_sem, t0, t1]) rfl ⟨?_, ?_⟩
        · rw [(unhide HC).1, (unhide HC).2]
        · exact (unhide OU).below (unhide hb) (Nat.le_refl _) (fun q hq e => by omega)
      · have HC : Hid (clockCode l = 0 ∧ clockVal l = m1) := ⟨hC, hV⟩
        subst hm
        clear hC hV
        go_wp2_with fail
        refine (l1In_any _ _ _ _).mono ?_
        rintro e w3 ⟨rfl, rfl⟩
        rw [hi]
        go_wp2_with fail
        clear y0 y1 f0 f1
        generalize hU : (w3.setCell _ _).setCell _ _ = U
        obtain ⟨XU, OU⟩ := store2' (unhide hx) hU
        have t0 := (unhide XU).cell 0
        have t1 := (unhide XU).cell 1
        simp at t0 t1
        refine bodyPost_ret (v := .agg #[.int .i64 0, .int .i64 m1]) (by simp [results, Tryz.results13, go_sem, t0, t1]) rfl ⟨?_, ?_⟩
        · rw [(unhide HC).1, (unhide HC).2]
        · exact (unhide OU).below (unhide hb) (Nat.le_refl _) (fun q hq e => by omega)
end Go.Proofs.YtiopofemelninaaGreat
