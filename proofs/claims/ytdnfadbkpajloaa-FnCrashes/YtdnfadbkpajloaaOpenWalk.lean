/-
  A device that is open to be changed; how it is opened: a panic with the DeviceFault, where it is none.
-/
import Derived.Test.YtdnfadbkpajloaaAskWalk
import Derived.Test.YtdnfadbkpajloaaCloneWalk
import Derived.Test.YtdnfadbkpajloaaOwnDev
namespace Go.Proofs.Ytdnfadbkpajloaa
open Go.RowKit

/-- The open device D: its memory m, its words at wv, its cells at fo, fm and oo, om. -/
structure Mem (w : World) (m : Nat) (wv fo oo : Value) (fm om : Nat) (D : Dev) : Prop where
  box : Box w m [wv, fo, .map (some fm), oo, .map (some om)] 201
  words : w.ownsRow 0 2 1 wv D.words.length (nums D.words)
  fl : CM w fo fm D.flights
  ov : CM w oo om D.over
  s1 : wv.ownBlock ≠ some m
  s2 : ¬ CMB fo fm m
  s3 : ¬ CMB oo om m
  s4 : ∀ q, wv.ownBlock = some q → ¬ CMB fo fm q
  s5 : ∀ q, wv.ownBlock = some q → ¬ CMB oo om q
  s6 : ∀ q, CMB fo fm q → ¬ CMB oo om q
def MemB (m : Nat) (wv fo oo : Value) (fm om : Nat) (q : Nat) : Prop := q = m ∨ wv.ownBlock = some q ∨ CMB fo fm q ∨ CMB oo om q

theorem Mem.stay {w w' : World} {m : Nat} {wv fo oo : Value} {fm om : Nat} {D : Dev} (h : Mem w m wv fo oo fm om D) (hk : ∀ q, MemB m wv fo oo fm om q → q < w.heap.size → w'.heap[q]? = w.heap[q]?) : Mem w' m wv fo oo fm om D :=
  ⟨h.box.keep (hk m (.inl rfl) h.box.lt), own_stay h.words fun q hq => hk q (.inr (.inl hq)), h.fl.stay fun q hq => hk q (.inr (.inr (.inl hq))), h.ov.stay fun q hq => hk q (.inr (.inr (.inr hq))), h.s1, h.s2, h.s3, h.s4, h.s5, h.s6⟩
theorem Mem.below {w w' : World} {m : Nat} {wv fo oo : Value} {fm om : Nat} {D : Dev} (h : Mem w m wv fo oo fm om D) (hb : Below w.heap.size w w') : Mem w' m wv fo oo fm om D := h.stay fun q _ hq => hb.block q hq
theorem Mem.out {F : Nat → Prop} {w w' : World} {m : Nat} {wv fo oo : Value} {fm om : Nat} {D : Dev} (h : Mem w m wv fo oo fm om D) (ho : Out F w w') (hF : ∀ q, MemB m wv fo oo fm om q → ¬ F q) : Mem w' m wv fo oo fm om D := h.stay fun q hq hl => ho.block q hl (hF q hq)
theorem Mem.lt {w : World} {m : Nat} {wv fo oo : Value} {fm om : Nat} {D : Dev} (h : Mem w m wv fo oo fm om D) {q : Nat} (hq : MemB m wv fo oo fm om q) : q < w.heap.size := by
  rcases hq with rfl | hq | hq | hq
  · exact h.box.lt
  · exact (h.words.lt q hq).2
  · exact h.fl.lt hq
  · exact h.ov.lt hq

theorem wordsCode_fault {D : Dev} (h : wordsCode D.words ≠ 0) : devFault D = wordsCode D.words := by
  unfold wordsCode at h ⊢
  unfold devFault
  split
  · rename_i h1
    rw [if_pos h1] at h
    split
    · rename_i h2
      rw [if_pos h2] at h
      exact absurd rfl h
    · rfl
  · rfl
theorem wordsCode_zero {D : Dev} (h : wordsCode D.words = 0) : sizeOk D.words.length = true ∧ allWords D.words = true := by
  unfold wordsCode at h
  split at h
  · rename_i h1
    split at h
    · rename_i h2
      exact ⟨h1, h2⟩
    · cases h
  · cases h
theorem fine_of {n : Nat} {l : List (Int × Int)} (hn : sizeOk n = true) (h : allCells n l = true) : Fine l := by
  intro c hc
  rw [allCells, List.all_eq_true] at h
  have h1 := h c hc
  rw [cellOk, Bool.and_eq_true, atOk, wordOk, inB_true, inB_true] at h1
  simp [sizeOk] at hn
  omega
theorem fault_cells {D : Dev} (h1 : sizeOk D.words.length = true) (h2 : allWords D.words = true) (h3 : allCells D.words.length D.flights = false ∨ allCells D.words.length D.over = false) : devFault D = 3 := by
  unfold devFault
  rw [if_pos h1, if_pos h2, if_neg]
  rw [Bool.and_eq_true]
  rintro ⟨a, b⟩
  rcases h3 with h | h
  · rw [h] at a; cases a
  · rw [h] at b; cases b
theorem fault_twice {D : Dev} (h1 : sizeOk D.words.length = true) (h2 : allWords D.words = true) (h3 : allCells D.words.length D.flights = true) (h4 : allCells D.words.length D.over = true) (h5 : ¬ (keys D.flights).Nodup ∨ ¬ (keys D.over).Nodup) : devFault D = 6 := by
  unfold devFault
  rw [if_pos h1, if_pos h2, if_pos (by rw [h3, h4]; rfl), if_neg]
  rw [Bool.and_eq_true]
  rintro ⟨a, b⟩
  rcases h5 with h | h
  · exact h (of_decide_eq_true a)
  · exact h (of_decide_eq_true b)

set_option maxHeartbeats 2000000 in
theorem openDevice_any (a1 a2 a3 : Option Addr) (c1 c2 c3 : Nat) (D : Dev) (w : World) (h : DevAt w a1 a2 a3 D) (n1 : D.words.length ≤ 1048576) (n2 : D.flights.length ≤ 1048576) (n3 : D.over.length ≤ 1048576) :
    Calls Try.prog 151 #[.agg #[.slice a1 D.words.length c1, .slice a2 D.flights.length c2, .slice a3 D.over.length c3]] w fun e w' => ((Good D ∧ ∃ m wv fo oo fm om, e = .returned (.pointer (some ⟨m, 0, none⟩)) ∧ Mem w' m wv fo oo fm om D ∧ ∀ q, MemB m wv fo oo fm om q → w.heap.size ≤ q) ∨ (devFault D ≠ 0 ∧ e = thrown (devFault D))) ∧ Below w.heap.size w w' := by
  have H := hide h
  have HH := hide h
  clear h
  go_enter Try.func151, Try.ntmps151
  go_wp2_with fail
  obtain ⟨W, hW, z1, hb, hx⟩ := boxes1 w [.slice a1 D.words.length c1, .slice a2 D.flights.length c2, .slice a3 D.over.length c3] 27
  rw [← hW]
  clear hW
  have H1 := hide ((unhide H).below (unhide hb))
  clear H
  refine (wordsFault_any a1 c1 D.words _ (unhide H1).r1 n1).mono ?_
  rintro e w1 ⟨rfl, rfl⟩
  by_cases hw : wordsCode D.words = 0
  case neg =>
    have hwb : (wordsCode D.words != 0) = true := by simpa using hw
    have HV := hide (wordsCode_fault hw)
    have HN := hide hw
    clear hw
    generalize wordsCode D.words = k at *
    go_wp2_with fail
    exact ⟨rfl, .inr ⟨by rw [unhide HV]; exact unhide HN, by rw [unhide HV]; rfl⟩, unhide hb⟩
  obtain ⟨hs1, hs2⟩ := wordsCode_zero hw
  rw [hw]
  clear hw
  have hpos : 0 < D.words.length := by simp [sizeOk] at hs1; omega
  have HS1 := hide hs1
  have HS2 := hide hs2
  clear hs1 hs2
  have q0 := (unhide hx).cell 0
  simp at q0
  go_wp2_with fail
  refine (cloneInts_any a1 c1 D.words _ (unhide H1).r1 hpos n1).mono ?_
  rintro e w2 ⟨⟨wv, rfl, hO⟩, hb2⟩
  obtain ⟨aw, cw, ew, -⟩ := intsAt_own hO
  subst ew
  have z2 : w1.heap.size ≤ w2.heap.size := hb2.size
  have B2 := hide (below_step (unhide hb) hb2 (by omega))
  have X2 := hide ((unhide hx).below hb2)
  have H2 := hide ((unhide H1).below hb2)
  have O2 := hide hO
  have LO := hide (fun q hq => hO.lt q hq)
  have q1 := (unhide X2).cell 1
  simp at q1
  have lx : w.heap.size < w2.heap.size := by omega
  clear hb2 hO hb hx H1 q0
  go_wp2_with fail
  obtain ⟨W3, hW3, z3, hb3, hx3⟩ := boxes1 w2 [.slice aw D.words.length cw, .slice none 0 0, .map none, .slice none 0 0, .map none] 201
  rw [← hW3]
  clear hW3 q1
  have B3 := hide (below_step (unhide B2) (unhide hb3) (by omega))
  have X3 := hide ((unhide X2).below (unhide hb3))
  have H3 := hide ((unhide H2).below (unhide hb3))
  have O3 := hide (own_below (unhide O2) (unhide hb3))
  clear B2 X2 H2 O2 hb3
  have HWM : Hid ((Value.slice aw D.words.length cw).ownBlock ≠ some w2.heap.size) := fun e => by have := unhide LO _ e; omega
  generalize w2.heap.size = m at *
  have q0 := (unhide hx3).cell 0
  simp at q0
  refine (askCells_any m _ _ _ a2 c2 D.flights _ q0 n1 (unhide H3).r2 n2).mono ?_
  rintro e w4 ⟨hor, hb4⟩
  have z4 : W3.heap.size ≤ w4.heap.size := hb4.size
  have B4 := hide (below_step (unhide B3) hb4 (by omega))
  have X4 := hide ((unhide X3).below hb4)
  have H4 := hide ((unhide H3).below hb4)
  have O4 := hide (own_below (unhide O3) hb4)
  have M4 := hide ((unhide hx3).below hb4)
  clear hb4 B3 X3 H3 O3 hx3 q0
  rcases hor with ⟨hf, rfl⟩ | ⟨hf, rfl⟩
  case inr =>
    have HV := hide (fault_cells (unhide HS1) (unhide HS2) (.inl hf))
    clear hf
    exact ⟨rfl, .inr ⟨by rw [unhide HV]; omega, by rw [unhide HV]; rfl⟩, unhide B4⟩
  have HF := hide hf
  clear hf
  have q2 := (unhide X4).cell 2
  simp at q2
  go_wp2_with fail
  have q0 := (unhide M4).cell 0
  simp at q0
  refine (askCells_any m _ _ _ a3 c3 D.over _ q0 n1 (unhide H4).r3 n3).mono ?_
  rintro e w5 ⟨hor, hb5⟩
  have z5 : w4.heap.size ≤ w5.heap.size := hb5.size
  have B5 := hide (below_step (unhide B4) hb5 (by omega))
  have X5 := hide ((unhide X4).below hb5)
  have H5 := hide ((unhide H4).below hb5)
  have O5 := hide (own_below (unhide O4) hb5)
  have M5 := hide ((unhide M4).below hb5)
  clear hb5 B4 X4 H4 O4 M4 q0 q2
  rcases hor with ⟨hf, rfl⟩ | ⟨hf, rfl⟩
  case inr =>
    have HV := hide (fault_cells (unhide HS1) (unhide HS2) (.inr hf))
    clear hf
    exact ⟨rfl, .inr ⟨by rw [unhide HV]; omega, by rw [unhide HV]; rfl⟩, unhide B5⟩
  have HG := hide hf
  clear hf
  have q1 := (unhide X5).cell 1
  simp at q1
  go_wp2_with fail
  clear q1
  refine (cellsOf_any a2 c2 D.flights _ (unhide H5).r2 (fine_of (unhide HS1) (unhide HF)) n2).mono ?_
  rintro e w6 ⟨hor, hb6⟩
  have z6 : w5.heap.size ≤ w6.heap.size := hb6.size
  have B6 := hide (below_step (unhide B5) hb6 (by omega))
  have X6 := hide ((unhide X5).below hb6)
  have H6 := hide ((unhide H5).below hb6)
  have O6 := hide (own_below (unhide O5) hb6)
  have M6 := hide ((unhide M5).below hb6)
  clear hb6 B5 X5 H5 O5 M5
  rcases hor with ⟨hu, fo, fm, rfl, hC, hL⟩ | ⟨hu, rfl⟩
  case inr =>
    have HV := hide (fault_twice (unhide HS1) (unhide HS2) (unhide HF) (unhide HG) (.inl hu))
    clear hu
    exact ⟨rfl, .inr ⟨by rw [unhide HV]; omega, by rw [unhide HV]; rfl⟩, unhide B6⟩
  have HU := hide hu
  obtain ⟨af, cf, ef, -⟩ := intsAt_own hC.row
  subst ef
  have C6 := hide hC
  have HL := hide hL
  clear hu hC hL
  have q2 := (unhide X6).cell 2
  have r1 := (unhide M6).cell 1
  have r2 := (unhide M6).cell 2
  have f1 := (unhide M6).frozen 1
  have f2 := (unhide M6).frozen 2
  simp at q2 r1 r2
  go_wp2_with fail
  clear q2 r1 r2 f1 f2
  generalize hU1 : w6.setCell _ _ = U1
  have M7 := hide ((unhide M6).set' hU1)
  have X7 := hide ((unhide X6).other' hU1 (by dsimp only; omega))
  have O7 := hide (own_set' (unhide O6) hU1 (by dsimp only; exact unhide HWM))
  have B7 := hide (below_set' (unhide B6) hU1 (by dsimp only; omega))
  have z7 := size_set' hU1
  have C7 := hide ((unhide C6).stay (w' := U1) (fun q hq _ => by rw [← hU1]; exact Below.heap_setCell _ _ _ q (by have := unhide HL q hq; dsimp only; omega)))
  clear hU1 M6 X6 O6 B6 C6
  generalize hU2 : U1.setCell _ _ = U2
  have M8 := hide ((unhide M7).set' hU2)
  have X8 := hide ((unhide X7).other' hU2 (by dsimp only; omega))
  have O8 := hide (own_set' (unhide O7) hU2 (by dsimp only; exact unhide HWM))
  have B8 := hide (below_set' (unhide B7) hU2 (by dsimp only; omega))
  have z8 := size_set' hU2
  have C8 := hide ((unhide C7).stay (w' := U2) (fun q hq _ => by rw [← hU2]; exact Below.heap_setCell _ _ _ q (by have := unhide HL q hq; dsimp only; omega)))
  clear hU2 M7 X7 O7 B7 C7
  have H8 := hide ((unhide HH).below (unhide B8))
  refine (cellsOf_any a3 c3 D.over _ (unhide H8).r3 (fine_of (unhide HS1) (unhide HG)) n3).mono ?_
  rintro e w9 ⟨hor, hb9⟩
  have z9 : U2.heap.size ≤ w9.heap.size := hb9.size
  have B9 := hide (below_step (unhide B8) hb9 (by omega))
  have O9 := hide (own_below (unhide O8) hb9)
  have M9 := hide ((unhide M8).below hb9)
  have C9 := hide ((unhide C8).below hb9)
  have LC8 := hide (fun q hq => CM.lt (q := q) (unhide C8) hq)
  clear hb9 B8 X8 H8 O8 M8
  rcases hor with ⟨hu, oo, om, rfl, hC, hL⟩ | ⟨hu, rfl⟩
  case inr =>
    have HV := hide (fault_twice (unhide HS1) (unhide HS2) (unhide HF) (unhide HG) (.inr hu))
    clear hu
    exact ⟨rfl, .inr ⟨by rw [unhide HV]; omega, by rw [unhide HV]; rfl⟩, unhide B9⟩
  have HUO := hide hu
  obtain ⟨ao, co, eo, -⟩ := intsAt_own hC.row
  subst eo
  have D9 := hide hC
  have HLO := hide hL
  clear hu hC hL
  have r3 := (unhide M9).cell 3
  have r4 := (unhide M9).cell 4
  have f3 := (unhide M9).frozen 3
  have f4 := (unhide M9).frozen 4
  simp at r3 r4
  go_wp2_with fail
  clear r3 r4 f3 f4
  generalize hU3 : w9.setCell _ _ = U3
  have M10 := hide ((unhide M9).set' hU3)
  have O10 := hide (own_set' (unhide O9) hU3 (by dsimp only; exact unhide HWM))
  have B10 := hide (below_set' (unhide B9) hU3 (by dsimp only; omega))
  have C10 := hide ((unhide C9).stay (w' := U3) (fun q hq _ => by rw [← hU3]; exact Below.heap_setCell _ _ _ q (by have := unhide HL q hq; dsimp only; omega)))
  have D10 := hide ((unhide D9).stay (w' := U3) (fun q hq _ => by rw [← hU3]; exact Below.heap_setCell _ _ _ q (by have := unhide HLO q hq; dsimp only; omega)))
  clear hU3 M9 O9 B9 C9 D9
  generalize hU4 : U3.setCell _ _ = U4
  have M11 := hide ((unhide M10).set' hU4)
  have O11 := hide (own_set' (unhide O10) hU4 (by dsimp only; exact unhide HWM))
  have B11 := hide (below_set' (unhide B10) hU4 (by dsimp only; omega))
  have C11 := hide ((unhide C10).stay (w' := U4) (fun q hq _ => by rw [← hU4]; exact Below.heap_setCell _ _ _ q (by have := unhide HL q hq; dsimp only; omega)))
  have D11 := hide ((unhide D10).stay (w' := U4) (fun q hq _ => by rw [← hU4]; exact Below.heap_setCell _ _ _ q (by have := unhide HLO q hq; dsimp only; omega)))
  clear hU4 M10 O10 B10 C10 D10
  go_ret
  refine ⟨.inl ⟨⟨unhide HS1, unhide HS2, unhide HF, unhide HG, unhide HU, unhide HUO⟩, m, _, _, _, fm, om, rfl, ⟨unhide M11, own_base (unhide O11) (fun _ _ => Nat.zero_le _), unhide C11, unhide D11, unhide HWM, ?_, ?_, ?_, ?_, ?_⟩, ?_⟩, unhide B11⟩
  · exact fun h => by have := unhide HL _ h; omega
  · exact fun h => by have := unhide HLO _ h; omega
  · exact fun q hq h => by have := unhide HL _ h; have := unhide LO _ hq; omega
  · exact fun q hq h => by have := unhide HLO _ h; have := unhide LO _ hq; omega
  · exact fun q hq h => by have := unhide LC8 _ hq; have := unhide HLO _ h; omega
  · intro q hq
    rcases hq with rfl | hq | hq | hq
    · omega
    · have := unhide LO _ hq; omega
    · have := unhide HL _ hq; omega
    · have := unhide HLO _ hq; omega
end Go.Proofs.Ytdnfadbkpajloaa
