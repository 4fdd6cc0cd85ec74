/-
  No cells; the cells of a list: a panic with 6, where two have the same place.
-/
import Derived.Test.YtdnfadbkpajloaaPutWalk
namespace Go.Proofs.Ytdnfadbkpajloaa
open Go.RowKit

/-- The panic with a code. -/
def thrown (k : Int) : Ending := .panicked [{ v := .iface 209 (.int .i64 k), recovered := false }]

set_option maxHeartbeats 1000000 in
theorem noCells_any (w : World) :
    Calls Try.prog 141 #[] w fun e w' => e = .returned (.agg #[.slice none 0 0, .map (some (w.heap.size + 1))]) ∧ CM w' (.slice none 0 0) (w.heap.size + 1) [] ∧ Below w.heap.size w w' := by
  have hmm := @run_makeMap Try.prog
  go_enter Try.func141, Try.ntmps141
  go_wp2
  have hM := mapAt_made (w.alloc (.cells #[.slice none 0 0, .map (some (w.heap.size + 1))] 199))
  rw [World.size_alloc] at hM
  refine bodyPost_ret (v := .agg #[.slice none 0 0, .map (some (w.heap.size + 1))]) (by simp [results, Try.results141, go_sem]) rfl ⟨rfl, ⟨World.ownsRow_nil _ _ _ _, ?_, by simp [keys], by simp [Value.ownBlock], fun c hc => by simp at hc⟩, ?_⟩
  · exact hM
  · exact ((Below.refl _ _).alloc (Nat.le_refl _) _).alloc (by simp) _
theorem take_setC {l : List (Int × Int)} {k : Nat} (hk : k < l.length) (h : look (l.take k) l[k].1 = none) : setC (l.take k) (l[k].1, l[k].2) = l.take (k + 1) := by
  rw [setC_none (c := (l[k].1, l[k].2)) h, List.take_succ_eq_append_getElem hk]
theorem fine_take {l : List (Int × Int)} {k : Nat} (h : Fine l) : Fine (l.take k) := fun c hc => h c (List.mem_of_mem_take hc)
theorem dup_take {l : List (Int × Int)} {k : Nat} (hk : k < l.length) (h : (look (l.take k) l[k].1).isSome = true) : ¬ (keys l).Nodup := by
  intro hn
  have hm := isSome_look.1 h
  have e1 : keys l = keys (l.take k) ++ keys (l.drop k) := by rw [keys, keys, keys, ← List.map_append, List.take_append_drop]
  rw [e1, List.nodup_append] at hn
  refine hn.2.2 _ hm _ ?_ rfl
  rw [List.drop_eq_getElem_cons hk]
  exact List.mem_cons_self
theorem nodup_all {l : List (Int × Int)} (h : ∀ k (hk : k < l.length), look (l.take k) l[k].1 = none) : ∀ k, k ≤ l.length → (keys (l.take k)).Nodup := by
  intro k
  induction k with
  | zero => intro _; simp [keys]
  | succ k ih =>
    intro hk
    rw [← take_setC (by omega) (h k (by omega))]
    exact nodup_setC (ih (by omega))

set_option maxHeartbeats 2000000 in
theorem cellsOf_any (a : Option Addr) (c : Nat) (l : List (Int × Int)) (w : World) (h : PairsAt w a l) (hf : Fine l) (hn : l.length ≤ 1048576) :
    Calls Try.prog 198 #[.slice a l.length c] w fun e w' => (((keys l).Nodup ∧ ∃ ov mb, e = .returned (.agg #[ov, .map (some mb)]) ∧ CM w' ov mb l ∧ ∀ q, CMB ov mb q → w.heap.size ≤ q) ∨ (¬ (keys l).Nodup ∧ e = thrown 6)) ∧ Below w.heap.size w w' := by
  go_enter Try.func198, Try.ntmps198
  go_wp2_with fail
  obtain ⟨W, hW, z1, hb, hx⟩ := boxes1 w [.slice none 0 0, .map none] 199
  rw [← hW]
  clear hW
  refine (noCells_any _).mono ?_
  rintro e w1 ⟨rfl, hC, hb1⟩
  have z2 : W.heap.size ≤ w1.heap.size := hb1.size
  have B1 := hide (below_step (unhide hb) hb1 (by omega))
  have X1 := hide ((unhide hx).below hb1)
  have C1 := hide hC
  have zm : W.heap.size + 1 < w1.heap.size := hC.map.lt
  clear hb1 hC hb hx
  generalize hmb : W.heap.size + 1 = mb at *
  have hmw : w.heap.size < mb := by omega
  clear hmb
  go_wp2_with fail
  obtain ⟨W2, hW2, z3, hb2, hx2⟩ := boxes1 w1 [.slice none 0 0, .map (some mb)] 199
  rw [← hW2]
  clear hW2
  have B2 := hide (below_step (unhide B1) (unhide hb2) (by omega))
  have X2 := hide ((unhide X1).below (unhide hb2))
  have C2 := hide ((unhide C1).below (unhide hb2))
  clear B1 X1 C1 hb2
  have hba : w.heap.size < w1.heap.size := by omega
  have HBM : Hid (w1.heap.size ≠ mb) := by intro e; omega
  generalize w1.heap.size = ba at *
  go_loopw [9] (fun i wr => ∃ (k : Nat) (ov : Value), k ≤ l.length ∧ i = .int .i64 k ∧ Hid (Box wr ba [ov, .map (some mb)] 199) ∧ Hid (CM wr ov mb (l.take k)) ∧ Hid (∀ q, CMB ov mb q → w.heap.size < q) ∧ Hid (ov.ownBlock ≠ some ba) ∧ Hid (Box wr w.heap.size [.slice none 0 0, .map none] 199) ∧ Hid (Below w.heap.size w wr) ∧ ba < wr.heap.size ∧ Hid (∀ j (hj : j < l.length), j < k → look (l.take j) l[j].1 = none)) (fun i _ => l.length - (intOf i).toNat)
  case atStart => exact ⟨0, .slice none 0 0, Nat.zero_le _, rfl, hx2, C2, (fun q hq => by rcases hq with hq | rfl; (simp [Value.ownBlock] at hq); exact hmw), (by simp [Hid, Value.ownBlock]), X2, B2, by omega, fun j _ hj => absurd hj (Nat.not_lt_zero j)⟩
  case round =>
    obtain ⟨k, ov, hk, rfl, HX, HC, HG, HN, HR, HB, zr, HL⟩ := hrel
    clear hx2 C2 X2 B2
    by_cases hlt : k < l.length
    · obtain ⟨b1, o1, rfl, m1, hc1⟩ := h.at hlt
      have hk1 := ((bcell (unhide HB)).1 b1 (o1 + k * 2) m1).trans (hc1 k hlt).1
      have hj1 := ((bcell (unhide HB)).1 b1 (o1 + k * 2 + 1) m1).trans (hc1 k hlt).2
      have hff := hf l[k] (List.getElem_mem hlt)
      have wk : (Lit.int .i64 l[k].1).wf = true := wfI (by omega) (by omega)
      have hq0 := (unhide HX).cell 1
      simp at hq0
      clear hc1
      cases hs : (look (l.take k) l[k].1).isSome
      case true =>
        have HDU := hide (dup_take hlt hs)
        go_wp2_with fail
        obtain ⟨W3, hW3, z4, hb3, hx3⟩ := boxes1 wr [.int .i64 l[k].1, .int .i64 l[k].2] 42
        rw [← hW3]
        clear hW3
        have hq3 := ((bcell (unhide hb3)).1 ba 1 zr).trans hq0
        have B3 := hide (below_step (unhide HB) (unhide hb3) (by have := (unhide HB).size; omega))
        refine (has_any ba 0 mb _ _ _ hq3 ((unhide HC).below (unhide hb3)).map wk).mono ?_
        rintro e w4 ⟨rfl, rfl⟩
        rw [hs]
        go_wp2_with fail
        exact ⟨rfl, .inr ⟨unhide HDU, rfl⟩, unhide B3⟩
      case false =>
        have hs0 : look (l.take k) l[k].1 = none := by simpa using hs
        go_wp2_with fail
        obtain ⟨W3, hW3, z4, hb3, hx3⟩ := boxes1 wr [.int .i64 l[k].1, .int .i64 l[k].2] 42
        rw [← hW3]
        clear hW3
        have hq3 := ((bcell (unhide hb3)).1 ba 1 zr).trans hq0
        have B3 := hide (below_step (unhide HB) (unhide hb3) (by have := (unhide HB).size; omega))
        have X3 := hide ((unhide HX).below (unhide hb3))
        have R3 := hide ((unhide HR).below (unhide hb3))
        have C3 := hide ((unhide HC).below (unhide hb3))
        have p0 := (unhide hx3).cell 0
        have p1 := (unhide hx3).cell 1
        simp at p0 p1
        refine (has_any ba 0 mb _ _ _ hq3 (unhide C3).map wk).mono ?_
        rintro e w4 ⟨rfl, rfl⟩
        rw [hs]
        clear hq0 hb3 HB HX HR HC
        go_wp2_with fail
        have zml : mb < w4.heap.size := (unhide C3).map.lt
        have hne1 : ba ≠ mb := fun e => unhide HBM e
        refine (put_any ba 0 mb ov _ _ _ l[k].1 l[k].2 _ (unhide X3) rfl rfl (unhide C3) hne1 (unhide HN) (by rw [List.length_take]; omega) hff).mono ?_
        rintro e w5 ⟨rfl, ov', hX, hC, hq, hO⟩
        rw [take_setC hlt hs0] at hC
        have z5 : w4.heap.size ≤ w5.heap.size := hO.size
        have HX5 := hide hX
        have HC5 := hide hC
        have HG5 : Hid (∀ q, CMB ov' mb q → w.heap.size < q) := by
          intro q hqq
          rcases hqq with hqq | rfl
          · rcases hq with hq | ⟨q', hq, hq2⟩
            · exact unhide HG q (.inl (by rw [← hq]; exact hqq))
            · rw [hqq] at hq; injection hq with hq; omega
          · exact hmw
        have HN5 : Hid (ov'.ownBlock ≠ some ba) := by
          intro e
          rcases hq with hq | ⟨q', hq, hq2⟩
          · exact unhide HN (by rw [← hq]; exact e)
          · rw [e] at hq; injection hq with hq; omega
        have HR5 := hide ((unhide R3).out hO (fun e => by rcases e with e | e; (omega); have := unhide HG _ e; omega))
        have HB5 := hide (hO.below (unhide B3) (Nat.le_refl _) (fun q hq1 e => by rcases e with e | e; (omega); have := unhide HG _ e; omega))
        have HL5 : Hid (∀ j (hj : j < l.length), j < k + 1 → look (l.take j) l[j].1 = none) := by
          intro j hj hj1
          by_cases e : j = k
          · subst e; exact hs0
          · exact unhide HL j hj (by omega)
        have zr5 : ba < w5.heap.size := by omega
        clear hX hC hq hO X3 C3 R3 B3 HG HN HL p0 p1 hq3
        go_wp2_with fail
        go_roundw
        case rel => exact ⟨k + 1, ov', by omega, by go_num, HX5, HC5, HG5, HN5, HR5, HB5, zr5, HL5⟩
        case measure => simp [intOf]; omega
    · have hke : l.take k = l := List.take_of_length_le (by omega)
      obtain ⟨ao, co, eo, -⟩ := intsAt_own (unhide HC).row
      subst eo
      have hq0 := (unhide HX).cell 0
      have hq1 := (unhide HX).cell 1
      have r0 := (unhide HR).cell 0
      have r1 := (unhide HR).cell 1
      have f0 := (unhide HR).frozen 0
      have f1 := (unhide HR).frozen 1
      simp at hq0 hq1 r0 r1
      have HC2 : Hid (CM wr (.slice ao (keys (l.take k)).length co) mb l) := by have := unhide HC; rw [hke] at this ⊢; exact this
      clear hke HC h
      go_wp2_with fail
      clear r0 r1 f0 f1
      generalize hU : (wr.setCell _ _).setCell _ _ = U
      obtain ⟨XU, OU⟩ := store2' (unhide HR) hU
      clear hU
      have C4 := (unhide HC2).out (unhide OU) (fun q hq e => by have := unhide HG q hq; omega)
      have B4 := (unhide OU).below (unhide HB) (Nat.le_refl _) (fun q hq e => by omega)
      have t0 := (unhide XU).cell 0
      have t1 := (unhide XU).cell 1
      simp at t0 t1
      refine bodyPost_ret (v := .agg #[.slice ao (keys (l.take k)).length co, .map (some mb)]) (by simp [results, Try.results198, go_sem, t0, t1]) rfl ⟨.inl ⟨C4.uq, _, mb, rfl, C4, fun q hq => by have := unhide HG q hq; omega⟩, B4⟩
end Go.Proofs.Ytdnfadbkpajloaa
