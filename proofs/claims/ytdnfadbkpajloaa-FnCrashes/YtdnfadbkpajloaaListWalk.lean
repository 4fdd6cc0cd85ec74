/-
  The cells of an open device, told as a list; the device out of its memory.
-/
import Derived.Test.YtdnfadbkpajloaaOpenedWalk
import Derived.Test.YtdnfadbkpajloaaCopyWalk
namespace Go.Proofs.Ytdnfadbkpajloaa
open Go.RowKit
set_option linter.unusedVariables false

theorem look_self {L : List (Int × Int)} (hu : (keys L).Nodup) : ∀ {k : Nat} (hk : k < L.length), look L L[k].1 = some L[k].2 := by
  induction L with
  | nil => intro k hk; simp at hk
  | cons d l ih =>
    intro k hk
    have hu' : d.1 ∉ keys l ∧ (keys l).Nodup := by simpa [keys] using hu
    cases k with
    | zero => simp [look]
    | succ k =>
      have hk' : k < l.length := by simpa using hk
      rw [List.getElem_cons_succ, look, if_neg, ih hu'.2 hk']
      exact fun e => hu'.1 (by rw [e]; exact List.mem_map_of_mem (List.getElem_mem hk'))
theorem cell_two_new' (w : World) (x y : Value) (t : TypeId) : ∀ j u, [x, y][j]? = some u → (w.alloc (.cells #[x, y] t)).cell? ((⟨w.heap.size, 0, none⟩ : Addr).add j) = some u := by
  intro j u hj
  rw [Go.WideShapes.add_plain]
  have := (box_new w [x, y] t).cell j
  simp only [Nat.zero_add]
  rw [this]; exact hj

set_option maxHeartbeats 2000000 in
theorem list_any (b o mb : Nat) (ov : Value) (L : List (Int × Int)) (w : World) (hc0 : w.cell? ⟨b, o, none⟩ = some ov) (hc1 : w.cell? ⟨b, o + 1, none⟩ = some (.map (some mb))) (h : CM w ov mb L) (hn : L.length ≤ 10000000) :
    Calls Try.prog 193 #[.pointer (some ⟨b, o, none⟩)] w fun e w' => (∃ a c, e = .returned (.slice a L.length c) ∧ w'.ownsRow w.heap.size 42 2 (.slice a L.length c) L.length (prs L)) ∧ Below w.heap.size w w' := by
  obtain ⟨i0, hi, hz0, hz1, hz2⟩ := info_parts infoCell
  obtain ⟨ao, co, eo, hkl, hI, -⟩ := intsAt_own h.row
  subst eo
  have hkl' : (keys L).length = L.length := by simp [keys]
  have hbl : b < w.heap.size := World.block_lt_of_cell? w _ hc0
  have HUQ := hide h.uq
  have HMP := hide h.map
  have HFI := hide h.fine
  have HI := hide hI
  clear h hI hkl
  rw [hkl'] at hc0
  go_enter Try.func193, Try.ntmps193
  go_wp2
  go_loopw [3, 11] (fun v i wr => ∃ (k : Nat) (a : Option Addr) (c : Nat), k ≤ L.length ∧ i = .int .i64 k ∧ v = .slice a k c ∧ Hid (wr.ownsRow w.heap.size 42 2 (.slice a k c) k (prs (L.take k))) ∧ Hid (Below w.heap.size w wr)) (fun _ i _ => L.length - (intOf i).toNat)
  case atStart => exact ⟨0, none, 0, Nat.zero_le _, rfl, rfl, World.ownsRow_nil _ _ _ _, Below.refl _ _⟩
  case round =>
    obtain ⟨k, a, c, hk, rfl, rfl, HO, HB⟩ := hrel
    have hwz := (unhide HB).size
    by_cases hlt : k < L.length
    · obtain ⟨b1, o1, rfl, m1, hc1'⟩ := (unhide HI).at (k := k) (by rw [hkl']; exact hlt)
      have hkk := ((bcell (unhide HB)).1 b1 (o1 + k) m1).trans (hc1' k (by rw [hkl']; exact hlt))
      have hke : (keys L)[k]'(by rw [hkl']; exact hlt) = L[k].1 := by simp [keys]
      rw [hke] at hkk
      have hff := unhide HFI L[k] (List.getElem_mem hlt)
      have hlk := ((unhide HMP).below (unhide HB)).look_in (k := L[k].1) (wfI (by omega) (by omega))
      rw [look_self (unhide HUQ) hlt] at hlk
      simp only [Option.getD_some] at hlk
      have hcm := ((bcell (unhide HB)).1 b (o + 1) hbl).trans hc1
      have HOA := hide ((unhide HO).alloc (.cells #[.int .i64 L[k].1, .int .i64 L[k].2] 42))
      clear hc1' hke
      go_wp2_with (at_builtin; refine wpList_append_own_at _ rfl _ _ 25 rfl w.heap.size 42 i0 _ 2 16 Try.underlying25 hi hz0 hz1 hz2 rfl (by decide) (.slice a k c) k (prs (L.take k)) rfl (unhide HOA) ⟨wr.heap.size, 0, none⟩ 1 1 [.int .i64 L[k].1, .int .i64 L[k].2] rfl rfl (cell_two_new' wr _ _ _) (by simp [Value.oneCell']) (by unfold maxLen; omega) (by omega) (by simp; omega) ?_; intro v' w3 hown hgrow hnil hloc; have HOW := hide hown; have HGR := hide hgrow; clear hown hgrow hnil hloc)
      have hO3 : w3.ownsRow w.heap.size 42 2 v' (k + 1) (prs (L.take (k + 1))) := by
        have := unhide HOW
        rw [List.take_succ_eq_append_getElem hlt, prs_append, prs_one]
        exact this
      obtain ⟨a', c', ev, hlen, -⟩ := pairsAt_own hO3
      rw [List.length_take] at ev hlen
      have e2 : min (k + 1) L.length = k + 1 := by omega
      rw [e2] at ev
      subst ev
      have HO3 := hide hO3
      have HB3 : Hid (Below w.heap.size w w3) := ((unhide HB).alloc hwz _).grown (unhide HGR) (by simp; omega) (fun q hq => ((unhide HO).lt q hq).1)
      clear hO3 HOW HGR
      go_wp2_with fail
      go_roundw
      case rel => exact ⟨k + 1, a', c', by omega, by go_num, rfl, HO3, HB3⟩
      case measure => simp [intOf]; omega
    · have hke : k = L.length := by omega
      subst hke
      have HO2 : Hid (wr.ownsRow w.heap.size 42 2 (.slice a L.length c) L.length (prs L)) := by have := unhide HO; rw [List.take_length] at this; exact this
      clear HO
      go_wp2
      go_ret
      exact ⟨⟨a, c, rfl, unhide HO2⟩, unhide HB⟩

/-- The list at an offset of the memory. -/
def listAt (D : Dev) (o : Nat) : List (Int × Int) := if o = 1 then D.flights else D.over
theorem list_mem {w : World} {m : Nat} {wv fo oo : Value} {fm om : Nat} {D : Dev} (h : Mem w m wv fo oo fm om D) (o : Nat) (ho : o = 1 ∨ o = 3) (n2 : D.flights.length ≤ 10000000) (n3 : D.over.length ≤ 10000000) :
    Calls Try.prog 193 #[.pointer (some ⟨m, o, none⟩)] w fun e w' => (∃ a c, e = .returned (.slice a (listAt D o).length c) ∧ w'.ownsRow w.heap.size 42 2 (.slice a (listAt D o).length c) (listAt D o).length (prs (listAt D o))) ∧ Below w.heap.size w w' := by
  rcases ho with rfl | rfl
  · exact list_any m 1 fm fo D.flights w (h.box.cell 1) (h.box.cell 2) h.fl n2
  · exact list_any m 3 om oo D.over w (h.box.cell 3) (h.box.cell 4) h.ov n3
set_option maxRecDepth 20000 in
set_option maxHeartbeats 4000000 in
theorem device_any (m : Nat) (wv fo oo : Value) (fm om : Nat) (D : Dev) (B : Nat) (w : World) (h : Mem w m wv fo oo fm om D) (hL : ∀ q, MemB m wv fo oo fm om q → B ≤ q) (hB : B ≤ w.heap.size) (n2 : D.flights.length ≤ 10000000) (n3 : D.over.length ≤ 10000000) :
    Calls Try.prog 138 #[.pointer (some ⟨m, 0, none⟩)] w fun e w' => (∃ a1 c1 a2 c2 a3 c3, e = .returned (.agg #[.slice a1 D.words.length c1, .slice a2 D.flights.length c2, .slice a3 D.over.length c3]) ∧ OwnDev w' B (.slice a1 D.words.length c1) (.slice a2 D.flights.length c2) (.slice a3 D.over.length c3) D) ∧ Below w.heap.size w w' := by
  obtain ⟨aw, cw, ew, -⟩ := intsAt_own h.words
  subst ew
  have hlt := h.box.lt
  have q0 := h.box.cell 0
  have q1 := h.box.cell 1
  have q2 := h.box.cell 3
  simp at q0 q1 q2
  have H := hide h
  have HLL := hide hL
  clear h hL
  obtain ⟨W, hW, z1, hb, hr⟩ := boxes1 w [.slice none 0 0, .slice none 0 0, .slice none 0 0] 27
  have hS : RS w m 0 1 3 w.heap.size (.slice aw D.words.length cw) fo oo W.drew :=
    ⟨(unhide hb).drew, ((bcell (unhide hb)).1 _ _ hlt).trans q0, ((bcell (unhide hb)).1 _ _ hlt).trans q1, ((bcell (unhide hb)).1 _ _ hlt).trans q2, cv_some (w := W.drew) ((unhide hr).cell 0), cv_some (w := W.drew) ((unhide hr).cell 1), cv_some (w := W.drew) ((unhide hr).cell 2), (unhide hr).frozen 0, (unhide hr).frozen 1, (unhide hr).frozen 2, (unhide hr).lt⟩
  have HS : Hid (Below w.heap.size w W.drew ∧ W.drew.cell? ⟨m, 0, none⟩ = some (.slice aw D.words.length cw) ∧ W.drew.cell? ⟨m, 1, none⟩ = some fo ∧ W.drew.cell? ⟨m, 3, none⟩ = some oo ∧ W.drew.cell? ⟨w.heap.size, 0, none⟩ = some (cv W.drew w.heap.size 0) ∧ W.drew.cell? ⟨w.heap.size, 1, none⟩ = some (cv W.drew w.heap.size 1) ∧ W.drew.cell? ⟨w.heap.size, 2, none⟩ = some (cv W.drew w.heap.size 2) ∧ W.drew.frozen? ⟨w.heap.size, 0, none⟩ = false ∧ W.drew.frozen? ⟨w.heap.size, 1, none⟩ = false ∧ W.drew.frozen? ⟨w.heap.size, 2, none⟩ = false ∧ w.heap.size < W.drew.heap.size) := hS
  have hsub : ∀ w', (Below w.heap.size w w' ∧ w'.cell? ⟨m, 0, none⟩ = some (.slice aw D.words.length cw) ∧ w'.cell? ⟨m, 1, none⟩ = some fo ∧ w'.cell? ⟨m, 3, none⟩ = some oo ∧ w'.cell? ⟨w.heap.size, 0, none⟩ = some (cv w' w.heap.size 0) ∧ w'.cell? ⟨w.heap.size, 1, none⟩ = some (cv w' w.heap.size 1) ∧ w'.cell? ⟨w.heap.size, 2, none⟩ = some (cv w' w.heap.size 2) ∧ w'.frozen? ⟨w.heap.size, 0, none⟩ = false ∧ w'.frozen? ⟨w.heap.size, 1, none⟩ = false ∧ w'.frozen? ⟨w.heap.size, 2, none⟩ = false ∧ w.heap.size < w'.heap.size) → Mem w' m (.slice aw D.words.length cw) fo oo fm om D := fun w' h => (unhide H).below h.1
  have HSUB := hide hsub
  clear hsub hS q0 q1 q2
  go_enter Try.func138, Try.ntmps138
  go_wp2_with fail
  rw [← hW]
  clear hW
  go_region_held3 (fun w' => Below w.heap.size w w' ∧ w'.cell? ⟨m, 0, none⟩ = some (.slice aw D.words.length cw) ∧ w'.cell? ⟨m, 1, none⟩ = some fo ∧ w'.cell? ⟨m, 3, none⟩ = some oo ∧ w'.cell? ⟨w.heap.size, 0, none⟩ = some (cv w' w.heap.size 0) ∧ w'.cell? ⟨w.heap.size, 1, none⟩ = some (cv w' w.heap.size 1) ∧ w'.cell? ⟨w.heap.size, 2, none⟩ = some (cv w' w.heap.size 2) ∧ w'.frozen? ⟨w.heap.size, 0, none⟩ = false ∧ w'.frozen? ⟨w.heap.size, 1, none⟩ = false ∧ w'.frozen? ⟨w.heap.size, 2, none⟩ = false ∧ w.heap.size < w'.heap.size) (first | with_reducible exact unhide HS | with_reducible exact keepR_below hlt (by assumption) (by assumption) | with_reducible exact keepR_store hlt (Nat.le_refl _) (by assumption))
    (first
      | (go_at_call 193; refine (list_mem (unhide HSUB _ (by assumption)) _ (by first | exact .inl rfl | exact .inr rfl) n2 n3).mono ?_; rintro e w5 ⟨⟨p2, e2, rfl, hO5⟩, hb5⟩; simp only [listAt, if_true, if_false, Nat.reduceEqDiff] at hO5 ⊢))
  rename_i w4 hb4 p1 e1 hO4 hHF
  have BF := hide hHF.1
  have X4 := hide (below_undrew hb4)
  have X5 := hide hb5
  have G4 := hide hO4
  have G5 := hide hO5
  have gW : W.heap.size ≤ W.drew.heap.size := Nat.le_refl W.heap.size
  clear hHF hb4 hb5 hO4 hO5
  have z4 := (unhide X4).size
  have z5 := (unhide X5).size
  have X45 := hide (below_step (unhide X4) (unhide X5) z4)
  have R5 := hide ((unhide hr).below (unhide X45))
  have W5 := hide (own_below (own_below (unhide H).words (unhide hb)) (unhide X45))
  have WL := hide (fun q hq => ((unhide H).words.lt q hq).2)
  generalize hU : ((w5.setCell _ _).setCell _ _).setCell _ _ = U at *
  obtain ⟨XU, OU⟩ := store3' (unhide R5) hU
  clear hU
  have t0 := (unhide XU).cell 0
  have t1 := (unhide XU).cell 1
  have t2 := (unhide XU).cell 2
  simp at t0 t1 t2
  have L4 : Hid (∀ q, (Value.slice p1 D.flights.length e1).ownBlock = some q → W.heap.size ≤ q ∧ q < w4.heap.size) := fun q hq => (unhide G4).lt q hq
  have L5 : Hid (∀ q, (Value.slice p2 D.over.length e2).ownBlock = some q → w4.heap.size ≤ q ∧ q < w5.heap.size) := fun q hq => (unhide G5).lt q hq
  have OD : Hid (OwnDev U B (.slice aw D.words.length cw) (.slice p1 D.flights.length e1) (.slice p2 D.over.length e2) D) := by
    refine ⟨own_base ((unhide OU).own (unhide W5) (fun q hq e => by have := unhide WL q hq; omega)) (fun q hq => unhide HLL q (.inr (.inl hq))), own_base ((unhide OU).own (own_below (unhide G4) (unhide X5)) (fun q hq e => by have := unhide L4 q hq; omega)) (fun q hq => by have := unhide L4 q hq; omega), own_base ((unhide OU).own (unhide G5) (fun q hq e => by have := unhide L5 q hq; omega)) (fun q hq => by have := unhide L5 q hq; omega), ?_, ?_, ?_⟩
    · exact fun q hq h2 => by have := unhide WL q hq; have := unhide L4 q h2; omega
    · exact fun q hq h2 => by have := unhide WL q hq; have := unhide L5 q h2; omega
    · exact fun q hq h2 => by have := unhide L4 q hq; have := unhide L5 q h2; omega
  go_wp2_with fail
  refine bodyPost_ret (v := .agg #[.slice aw D.words.length cw, .slice p1 D.flights.length e1, .slice p2 D.over.length e2]) (by simp [results, Try.results138, go_sem, t0, t1, t2]) rfl ⟨⟨_, _, _, _, _, _, rfl, unhide OD⟩, unhide BF⟩
end Go.Proofs.Ytdnfadbkpajloaa
