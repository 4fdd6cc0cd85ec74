/-
  A line is flushed, as the specification does it.
-/
import Derived.Test.YtdnfadbkpajloaaSEvictWalk
import Derived.Test.YtdnfadbkpajloaaFlushWalk
namespace Go.Proofs.Ytdnfadbkpajloaa
open Go.RowKit
set_option linter.unusedVariables false

set_option maxHeartbeats 1000000 in
theorem l2Line_any (d n c : Nat) (a : Option Addr) (x : Int) (w : World) (hc : w.cell? ⟨d, 0, none⟩ = some (.slice a n c)) (hn : n ≤ 1048576) :
    Calls Try.prog 218 #[.pointer (some ⟨d, 0, none⟩), .int .i64 x] w fun e w' => e = .returned (.bool (sizeOkL n x)) ∧ w' = w := by
  have htd : (n : Int).tdiv 8 = (n : Int) / 8 := Int.tdiv_eq_ediv_of_nonneg (by omega)
  go_enter Try.func218, Try.ntmps218
  go_wp2_with fail
  refine (l1In_any _ 0 _ _).mono ?_
  rintro e w1 ⟨rfl, rfl⟩
  try rw [htd]
  have HR : Hid (sizeOkL n x = inB x 0 ((n : Int) / 8 - 1)) := rfl
  clear htd
  generalize inB x 0 ((n : Int) / 8 - 1) = r at *
  go_wp2_with fail
  go_ret
  exact ⟨ret_bool (unhide HR).symm, rfl⟩

theorem SMem.overNew {w w' : World} {base d : Nat} {t : TypeId} {v1 v2 v3 v3' : Value} {D : Dev} {L : List (Int × Int)} (h : SMem w base d t v1 v2 v3 D) (hx : Box w' d [v1, v2, v3'] t) (hL : RowW w' base v3' L) (hq : L ≠ [] → ∀ q, v3'.ownBlock = some q → q ≠ d ∧ v1.ownBlock ≠ some q ∧ (D.flights ≠ [] → v2.ownBlock ≠ some q)) (ho : Out (fun q => q = d) w w') :
    SMem w' base d t v1 v2 v3' ⟨D.words, D.flights, L⟩ := by
  refine ⟨hx, ⟨ho.own h.dev.o1 (fun q hq e => h.nd q (.inl hq) e), h.dev.o2.out ho (fun hl q hq e => h.nd q (.inr (.inl ⟨hl, hq⟩)) e), hL, h.dev.n12, fun hl q h1 h2 => (hq hl q h2).2.1 h1, fun hf hl q h1 h2 => (hq hl q h2).2.2 hf h1⟩, ?_⟩
  rintro q (h1 | h1 | ⟨hl, h1⟩) e
  · exact h.nd q (.inl h1) e
  · exact h.nd q (.inr (.inl h1)) e
  · exact (hq hl q h1).1 e
theorem SMem.below {w w' : World} {base d : Nat} {t : TypeId} {v1 v2 v3 : Value} {D : Dev} (h : SMem w base d t v1 v2 v3 D) (hb : Below w.heap.size w w') : SMem w' base d t v1 v2 v3 D := ⟨h.box.below hb, h.dev.below hb, h.nd⟩
theorem SMem.out {F : Nat → Prop} {w w' : World} {base d : Nat} {t : TypeId} {v1 v2 v3 : Value} {D : Dev} (h : SMem w base d t v1 v2 v3 D) (ho : Out F w w') (h1 : ¬ F d) (hF : ∀ q, SB v1 v2 v3 D q → ¬ F q) : SMem w' base d t v1 v2 v3 D := ⟨h.box.out ho h1, h.dev.out ho hF, h.nd⟩

/-- The new list lies apart from the device. -/
def Apart (v : Value) (L : List (Int × Int)) (d : Nat) (v1 v2 v3 : Value) (D : Dev) : Prop := L ≠ [] → ∀ q, v.ownBlock = some q → q ≠ d ∧ ¬ SB v1 v2 v3 D q

set_option maxRecDepth 20000 in
set_option maxHeartbeats 4000000 in
theorem l2Flush_any (d : Nat) (t : TypeId) (base : Nat) (v1 v2 v3 : Value) (D : Dev) (line : Int) (w : World) (h : SMem w base d t v1 v2 v3 D) (hbase : base ≤ w.heap.size) (hg : Good D) (n2 : D.flights.length ≤ 1100000) (n3 : D.over.length ≤ 1100000) :
    Calls Try.prog 219 #[.pointer (some ⟨d, 0, none⟩), .int .i64 line] w fun e w' => e = .returned (.tuple #[]) ∧ ∃ u1 u2 u3, SMem w' base d t u1 u2 u3 (flushDev D line) ∧ Out (fun q => q = d ∨ SB v1 v2 v3 D q) w w' := by
  obtain ⟨i0, hi, hz0, hz1, hz2⟩ := info_parts infoCell
  obtain ⟨s1, d1, s2, d2, s3, d3, e1, e2, e3, hDA⟩ := h.dev.form
  subst e1 e2 e3
  have H := hide h
  have HG := hide hg
  have BA0 := hide ((Below.refl _ w).alloc (Nat.le_refl _) (.cells #[] 42))
  have HSB := hide (fun q hq => SDev.lt (q := q) h.dev hq)
  have hdl := h.box.lt
  clear h hg hDA
  go_enter Try.func219, Try.ntmps219
  go_wp2_with fail
  go_loopw [4, 5] (fun v i wr => ∃ (k : Nat) (a' : Option Addr) (c' : Nat) (a2 : Option Addr) (c2 : Nat), k ≤ D.over.length ∧ i = .int .i64 k ∧ v = .slice a' (flushO (D.over.take k) line).length c' ∧ Hid (RowW wr w.heap.size (.slice a' (flushO (D.over.take k) line).length c') (flushO (D.over.take k) line)) ∧ Hid (SMem wr base d t (.slice s1 D.words.length d1) (.slice a2 (flushF D.flights (D.over.take k) line).length c2) (.slice s3 D.over.length d3) ⟨D.words, flushF D.flights (D.over.take k) line, D.over⟩) ∧ Hid (Apart (.slice a' (flushO (D.over.take k) line).length c') (flushO (D.over.take k) line) d (.slice s1 D.words.length d1) (.slice a2 (flushF D.flights (D.over.take k) line).length c2) (.slice s3 D.over.length d3) ⟨D.words, flushF D.flights (D.over.take k) line, D.over⟩) ∧ Hid (∀ q, flushF D.flights (D.over.take k) line ≠ [] → (Value.slice a2 (flushF D.flights (D.over.take k) line).length c2).ownBlock = some q → (D.flights ≠ [] ∧ (Value.slice s2 D.flights.length d2).ownBlock = some q) ∨ w.heap.size ≤ q) ∧ Hid (Out (fun q => q = d ∨ SB (.slice s1 D.words.length d1) (.slice s2 D.flights.length d2) (.slice s3 D.over.length d3) D q) w wr)) (fun _ i _ => D.over.length - (intOf i).toNat)
  case atStart => exact ⟨0, some ⟨w.heap.size, 0, none⟩, 0, s2, d2, Nat.zero_le _, rfl, rfl, .inl ⟨rfl, _, rfl, .inr ⟨_, rfl⟩⟩, (unhide H).below (unhide BA0), fun hl => absurd rfl hl, fun q hl hq => .inl ⟨hl, hq⟩, Out.ofBelow (unhide BA0)⟩
  case round =>
    obtain ⟨k, a', c', a2, c2, hk, rfl, rfl, HL, HM, HAP, HF, HU⟩ := hrel
    have zr : w.heap.size ≤ wr.heap.size := (unhide HU).size
    have q1 := (unhide HM).box.cell 1
    have q2 := (unhide HM).box.cell 2
    simp at q1 q2
    by_cases hlt : k < D.over.length
    · have hne : D.over ≠ [] := by intro e; rw [e] at hlt; simp at hlt
      obtain ⟨a0, c0, e0, hP, -⟩ := (unhide HM).dev.o3.form
      injection e0 with e1 e2 e3
      subst e1 e3
      obtain ⟨b, o, rfl, lb, hc⟩ := hP.at hlt
      have hca := (hc k hlt).1
      have hcb := (hc k hlt).2
      have hat := cellOk_at (unhide HG).over hlt
      have hFt := flushF_take hlt D.flights line
      have hOt := flushO_take hlt line
      have hin : (D.over[k].1.tdiv 8 == line) = inLine line D.over[k] := inLine_eq (V := D.over[k].2) hat.1
      have hlF : (flushF D.flights (D.over.take k) line).length ≤ 5000000 := by have := flushF_len D.flights (D.over.take k) line; rw [List.length_take] at this; omega
      have hlO : (flushO (D.over.take k) line).length ≤ 5000000 := by have := flushO_len (D.over.take k) line; rw [List.length_take] at this; omega
      have k0 : (0 : Int) ≤ (k : Int) := by omega
      have k1 : (k : Int) < D.over.length := by omega
      have hsm := (unhide HG).small
      have hw64 : -9223372036854775808 ≤ D.over[k].1.tdiv 8 ∧ D.over[k].1.tdiv 8 ≤ 9223372036854775807 := by rw [Int.tdiv_eq_ediv_of_nonneg hat.1]; omega
      clear hc hP e2
      generalize hA : D.over[k].1 = A at *
      generalize hV : D.over[k].2 = V at *
      cases hI : inLine line D.over[k]
      · rw [hI] at hin hFt hOt
        have HEQ : Hid (flushF D.flights (D.over.take (k + 1)) line = flushF D.flights (D.over.take k) line ∧ flushO (D.over.take (k + 1)) line = flushO (D.over.take k) line ++ [(A, V)]) := ⟨by simpa using hFt, by rw [hOt, ← hA, ← hV]; simp⟩
        have BA := hide ((Below.refl _ wr).alloc (Nat.le_refl _) (.cells #[.int .i64 A, .int .i64 V] 42))
        have HLA := hide ((unhide HL).below (unhide BA))
        have HML := hide (fun q hq => SDev.lt (q := q) (unhide HM).dev hq)
        have hdw := (unhide HM).box.lt
        clear hFt hOt hI hA hV
        generalize hLF : flushF D.flights (D.over.take k) line = LF at *
        generalize hLO : flushO (D.over.take k) line = LO at *
        clear hLF hLO
        go_wp2_with (at_builtin; refine wpList_append_row rfl _ _ 25 rfl w.heap.size i0 _ Try.underlying25 hi hz0 hz1 hz2 rfl (.slice a' LO.length c') LO rfl (unhide HLA) (some ⟨wr.heap.size, 0, none⟩) 1 [(A, V)] rfl (pairs_one_new wr A V _) (by simp) (by simp; omega) (by simp; omega) ?_; intro a4 c4 w3 hR hO hq; have HR := hide hR; have HO := hide hO; have HQ := hide hq; clear hR hO hq)
        have M3 := hide (((unhide HM).below (unhide BA)).out (unhide HO) (fun e => (unhide HAP e.1 d e.2).1 rfl) (fun q hq e => (unhide HAP e.1 q e.2).2 hq))
        have AP3 : Hid (Apart (.slice a4 (LO ++ [(A, V)]).length c4) (LO ++ [(A, V)]) d (.slice s1 D.words.length d1) (.slice a2 LF.length c2) (.slice (some ⟨b, o, none⟩) D.over.length d3) ⟨D.words, LF, D.over⟩) := fun _ q hq => by
          rcases unhide HQ with ⟨hl, e⟩ | ⟨q', e, h2⟩
          · exact unhide HAP hl q (by rw [← e]; exact hq)
          · rw [hq] at e; injection e with e; subst e
            simp at h2
            exact ⟨by omega, fun hs => by have := (unhide HML q hs).2; omega⟩
        have U3 := hide (((unhide HU).trans (Out.ofBelow (unhide BA)) (fun _ _ h => h)).trans (unhide HO) (fun q hq e => by have := ((unhide HL).lt e.1 q e.2).1; omega))
        go_roundw
        case rel => exact ⟨k + 1, a4, c4, a2, c2, by omega, by go_num, by rw [(unhide HEQ).2, List.length_append]; rfl, by rw [(unhide HEQ).2]; exact HR, by rw [(unhide HEQ).1]; exact M3, by rw [(unhide HEQ).1, (unhide HEQ).2]; exact AP3, by rw [(unhide HEQ).1]; exact HF, U3⟩
        case measure => simp [intOf]; omega
      · rw [hI] at hin hFt hOt
        have HEQ : Hid (flushF D.flights (D.over.take (k + 1)) line = setC (flushF D.flights (D.over.take k) line) (A, V) ∧ flushO (D.over.take (k + 1)) line = flushO (D.over.take k) line) := ⟨by simpa using hFt, by simpa using hOt⟩
        have HML := hide (fun q hq => SDev.lt (q := q) (unhide HM).dev hq)
        have hdw := (unhide HM).box.lt
        have HMd := hide (unhide HM).drew
        clear hFt hOt hI hA hV
        generalize hLF : flushF D.flights (D.over.take k) line = LF at *
        generalize hLO : flushO (D.over.take k) line = LO at *
        clear hLF hLO
        go_wp2_with fail
        go_region_with (go_at_call 225; refine (l2Set_any a2 c2 LF A V base _ (unhide HMd).dev.o2 (by show base ≤ wr.heap.size; omega) (by omega)).mono ?_; rintro e w3 ⟨a4, c4, rfl, hR, hq, hO⟩; have X3 := hide ((unhide HMd).box.out hO (fun e => (unhide HMd).nd d (.inr (.inl e)) rfl)); have y1 := (unhide X3).cell 1; have f1 := (unhide X3).frozen 1; simp at y1; have HR := hide hR; have HQ := hide hq; have HO := hide hO.undrew; clear hR hq hO)
        all_goals
          clear y1 f1
          obtain ⟨V4, hV4, M4, O4⟩ : ∃ V4, V4 = w3.setCell ⟨d, 1, none⟩ (.slice a4 (setC LF (A, V)).length c4) ∧ Hid (SMem V4 base d t (.slice s1 D.words.length d1) (.slice a4 (setC LF (A, V)).length c4) (.slice (some ⟨b, o, none⟩) D.over.length d3) ⟨D.words, setC LF (A, V), D.over⟩) ∧ Hid (Out (fun q => q = d ∨ (LF ≠ [] ∧ (Value.slice a2 LF.length c2).ownBlock = some q)) wr V4) := by
            have OU : Out (fun q => q = d) w3 (w3.setCell ⟨d, 1, none⟩ (.slice a4 (setC LF (A, V)).length c4)) := out_set' (Out.refl _ _) rfl (.inl rfl)
            have OA := ((unhide HO).weak (G := fun q => q = d ∨ (LF ≠ [] ∧ (Value.slice a2 LF.length c2).ownBlock = some q)) (fun q _ e => .inr e)).trans OU (fun q _ e => .inl e)
            refine ⟨_, rfl, ((unhide HM).setFl ((unhide X3).set' rfl) ((unhide HR).out OU (fun hl q hq e => ?_)) (fun hl q hq => ?_) OA), OA⟩
            · subst e
              rcases unhide HQ with ⟨h1, h2⟩ | ⟨q2, h1, h2⟩
              · exact (unhide HM).nd q (.inr (.inl ⟨h1, by rw [← h2]; exact hq⟩)) rfl
              · rw [hq] at h1; injection h1 with h1; have : wr.heap.size ≤ q2 := h2; omega
            · rcases unhide HQ with ⟨h1, h2⟩ | ⟨q2, h1, h2⟩
              · exact .inl ⟨h1, by rw [← h2]; exact hq⟩
              · rw [hq] at h1; injection h1 with h1; have : wr.heap.size ≤ q2 := h2; exact .inr (by omega)
          rw [← hV4]
          clear hV4
          have hz4 := (unhide O4).size
          have L4 := hide ((unhide HL).out (unhide O4) (fun hl q hq e => by
            have h1 := unhide HAP hl q hq
            rcases e with e | e
            · exact h1.1 e
            · exact h1.2 (.inr (.inl e))))
          have AP4 : Hid (Apart (.slice a' LO.length c') LO d (.slice s1 D.words.length d1) (.slice a4 (setC LF (A, V)).length c4) (.slice (some ⟨b, o, none⟩) D.over.length d3) ⟨D.words, setC LF (A, V), D.over⟩) := fun hl q hq => by
            have h1 := unhide HAP hl q hq
            refine ⟨h1.1, fun hs => ?_⟩
            rcases hs with hs | ⟨hl2, hs⟩ | hs
            · exact h1.2 (.inl hs)
            · rcases unhide HQ with ⟨h3, h2⟩ | ⟨q2, h3, h2⟩
              · exact h1.2 (.inr (.inl ⟨h3, by rw [← h2]; exact hs⟩))
              · rw [hs] at h3; injection h3 with h3; have : wr.heap.size ≤ q2 := h2; have := ((unhide HL).lt hl q hq).2; omega
            · exact h1.2 (.inr (.inr hs))
          have F4 : Hid (∀ q, setC LF (A, V) ≠ [] → (Value.slice a4 (setC LF (A, V)).length c4).ownBlock = some q → (D.flights ≠ [] ∧ (Value.slice s2 D.flights.length d2).ownBlock = some q) ∨ w.heap.size ≤ q) := fun q _ hq => by
            rcases unhide HQ with ⟨h3, h2⟩ | ⟨q2, h3, h2⟩
            · exact unhide HF q h3 (by rw [← h2]; exact hq)
            · rw [hq] at h3; injection h3 with h3; have : wr.heap.size ≤ q2 := h2; exact .inr (by omega)
          have U4 := hide ((unhide HU).trans (unhide O4) (fun q hq e => by
            rcases e with e | e
            · exact .inl e
            · rcases unhide HF q e.1 e.2 with e | e
              · exact .inr (.inr (.inl e))
              · omega))
          rw [← (unhide HEQ).1] at M4 AP4 F4
          clear HR HQ HO O4 X3 HM HMd HL HAP HF HU q1 q2 hca hcb hin hw64
          go_wp2_with fail
          go_roundw
          case rel => exact ⟨k + 1, a', c', a4, c4, by omega, by go_num, by rw [(unhide HEQ).2], by rw [(unhide HEQ).2]; exact L4, by rw [(unhide HEQ).1] at M4 ⊢; exact M4, by rw [(unhide HEQ).2]; rw [(unhide HEQ).1] at AP4 ⊢; exact AP4, by rw [(unhide HEQ).1] at F4 ⊢; exact F4, U4⟩
          case measure => simp [intOf]; omega
    · have hke : k = D.over.length := by omega
      subst hke
      have HE : Hid (D.over.take D.over.length = D.over) := by rw [Hid, List.take_length]
      rw [unhide HE] at HM HL HAP HF q1
      rw [unhide HE]
      have y2 := q2
      have f2 := (unhide HM).box.frozen 2
      clear q1
      go_wp2_with fail
      clear q2 y2 f2
      generalize hU1 : wr.setCell _ _ = V1
      have OU : Out (fun q => q = d) wr V1 := out_set' (Out.refl _ _) hU1 (.inl rfl)
      have M5 := (unhide HM).overNew ((unhide HM).box.set' hU1) (((unhide HL).out OU (fun hl q hq e => (unhide HAP hl q hq).1 e)).base (base' := base) hbase) (fun hl q hq => ⟨(unhide HAP hl q hq).1, fun e => (unhide HAP hl q hq).2 (.inl e), fun hf e => (unhide HAP hl q hq).2 (.inr (.inl ⟨hf, e⟩))⟩) OU
      go_end0
      exact ⟨rfl, _, _, _, M5, (unhide HU).trans OU (fun q _ e => .inl e)⟩

theorem flushDev_len (D : Dev) (a : Int) (hl : ((D.words.length : Int) + D.flights.length + D.over.length) ≤ 1048576) : (chgDev D (flushCode D a) (flushDev D a)).words.length ≤ 1048576 ∧ (chgDev D (flushCode D a) (flushDev D a)).flights.length ≤ 1048576 ∧ (chgDev D (flushCode D a) (flushDev D a)).over.length ≤ 1048576 := by
  have h2 := flushF_len D.flights D.over a
  have h3 := flushO_len D.over a
  refine chgDev_len fun hg => ⟨?_, ?_, ?_⟩
  · show D.words.length ≤ _; omega
  · show (flushF D.flights D.over a).length ≤ _; omega
  · show (flushO D.over a).length ≤ _; omega
end Go.Proofs.Ytdnfadbkpajloaa
