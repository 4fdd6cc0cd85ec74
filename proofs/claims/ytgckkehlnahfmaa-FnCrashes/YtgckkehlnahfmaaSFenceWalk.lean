/-
  The fence, as the specification does it.
-/
import Derived.Test.YtgckkehlnahfmaaSStoreWalk
import Derived.Test.YtgckkehlnahfmaaFenceWalk
import Derived.BigRegion
namespace Go.Proofs.Ytgckkehlnahfmaa
open Go.RowKit
set_option linter.unusedVariables false

theorem SMem.fenced {w w' : World} {base d : Nat} {t : TypeId} {v1 v2 v3 : Value} {D : Dev} {ws : List Int} (h : SMem w base d t v1 v2 v3 D) (hx : Box w' d [v1, .slice none 0 0, v3] t) (hw : w'.ownsRow base 2 1 v1 ws.length (nums ws)) (ho : Out (fun q => q = d ∨ v1.ownBlock = some q) w w') :
    SMem w' base d t v1 (.slice none 0 0) v3 ⟨ws, [], D.over⟩ := by
  refine ⟨hx, ⟨hw, .inl ⟨rfl, none, rfl, .inl rfl⟩, h.dev.o3.out ho (fun hl q hq e => ?_), fun hl => absurd rfl hl, h.dev.n13, fun hl => absurd rfl hl⟩, ?_⟩
  · rcases e with e | e
    · exact h.nd q (.inr (.inr ⟨hl, hq⟩)) e
    · exact h.dev.n13 hl q e hq
  · rintro q (h1 | ⟨hl, h1⟩ | h1) e
    · exact h.nd q (.inl h1) e
    · exact absurd rfl hl
    · exact h.nd q (.inr (.inr h1)) e

set_option maxRecDepth 20000 in
set_option maxHeartbeats 4000000 in
theorem l2Fence_any (d : Nat) (t : TypeId) (base : Nat) (v1 v2 v3 : Value) (D : Dev) (w : World) (h : SMem w base d t v1 v2 v3 D) (hg : Good D) (hn : D.flights.length ≤ 10000000) :
    Calls Try.prog 58 #[.pointer (some ⟨d, 0, none⟩)] w fun e w' => e = .returned (.tuple #[]) ∧ ∃ u1 u2 u3, SMem w' base d t u1 u2 u3 (fenceDev D) ∧ Out (fun q => q = d ∨ SB v1 v2 v3 D q) w w' := by
  obtain ⟨aw, cw, ew, -, hIw, -⟩ := intsAt_own h.dev.o1
  obtain ⟨gw, ow, eaw, -⟩ := hIw.at (k := 0) (by have := hg.small; omega)
  have how0 := h.dev.o1
  obtain ⟨a2, c2, e2, -, hb2, hg2⟩ := h.dev.o2.form
  subst ew
  subst eaw
  subst e2
  have eow : ow = 0 := by
    rcases how0.2 with ⟨e, _⟩ | ⟨g, cap, cur, e, _⟩
    · cases e
    · injection e with e; injection e with e; injection e
  subst eow
  have hsz := hg.small
  have hgd : gw ≠ d := h.nd gw (.inl rfl)
  have H := hide h
  have HG := hide hg
  clear h hg how0 hIw hb2
  go_enter Try.func58, Try.ntmps58
  go_wp2_with fail
  go_loopw [2] (fun i wr => ∃ k : Nat, k ≤ D.flights.length ∧ i = .int .i64 k ∧ Hid (wr.ownsRow base 2 1 (.slice (some ⟨gw, 0, none⟩) D.words.length cw) D.words.length (nums (keepAll D.words (D.flights.take k)))) ∧ Hid (Out (fun q => q = gw) w wr)) (fun i _ => D.flights.length - (intOf i).toNat)
  case atStart => exact ⟨0, Nat.zero_le _, rfl, by have := (unhide H).dev.o1; simpa [Hid, keepAll] using this, Out.refl _ _⟩
  case round =>
    obtain ⟨k, hk, rfl, HO, HU⟩ := hrel
    have XM := hide ((unhide H).box.out (unhide HU) (fun e => hgd e.symm))
    have q0 := (unhide XM).cell 0
    have q1 := (unhide XM).cell 1
    simp at q0 q1
    by_cases hlt : k < D.flights.length
    · have hne : D.flights ≠ [] := by intro e; rw [e] at hlt; simp at hlt
      obtain ⟨g2, rfl⟩ := hg2 hne
      have hn12 := (unhide H).dev.n12 hne
      obtain ⟨a0, c0, e0, hP, -⟩ := ((unhide H).dev.o2.out (unhide HU) (fun _ q hq e => by subst e; exact hn12 q rfl hq)).form
      injection e0 with e1 e2 e3
      subst e1 e3
      obtain ⟨b, o, eb, lb, hc⟩ := hP.at hlt
      injection eb with eb
      injection eb with eb1 eb2
      subst eb1 eb2
      have hck := hc k hlt
      have hca := hck.1
      have hcb := hck.2
      rw [Nat.zero_add] at hca hcb
      have hat := cellOk_at (unhide HG).flights hlt
      clear hck hc hP e2 hn12 hg2
      generalize hA : D.flights[k].1 = A at *
      generalize hV : D.flights[k].2 = V at *
      have HKT : Hid (keepAll D.words (D.flights.take (k + 1)) = (keepAll D.words (D.flights.take k)).set A.toNat V) := by rw [← hA, ← hV]; exact keepAll_take hlt _
      clear hA hV
      have hln : A.toNat < (nums (keepAll D.words (D.flights.take k))).length := by rw [nums_length, keepAll_len]; omega
      obtain ⟨ov, hcw⟩ : ∃ ov, wr.cell? ⟨gw, A.toNat, none⟩ = some ov := ⟨_, by rw [(unhide HO).cellAt A.toNat (by have := (unhide HO).1; omega), List.getElem?_eq_getElem hln]⟩
      have hfw := (unhide HO).frozenAt A.toNat
      have O3 := hide ((unhide HO).stored A.toNat (.int .i64 V)).1
      rw [nums_set, ← unhide HKT] at O3
      have U3 := hide ((unhide HU).setCell (p := ⟨gw, A.toNat, none⟩) (.inl rfl) (.int .i64 V))
      clear XM HKT HO HU hln
      have hl0 : 0 ≤ A := hat.1
      have hl1 : A < D.words.length := hat.2
      have k0 : (0 : Int) ≤ (k : Int) := by omega
      have k1 : (k : Int) < D.flights.length := by omega
      clear hat
      go_wp2_with fail
      go_region
      all_goals
        go_wp2_with fail
        go_roundw
        case rel => exact ⟨k + 1, by omega, by go_num, O3, outDrew (unhide U3)⟩
        case measure => simp [intOf]; omega
    · have hke : k = D.flights.length := by omega
      subst hke
      rw [List.take_length] at HO
      have f1 := (unhide XM).frozen 1
      clear hg2
      go_wp2_with fail
      clear q0 q1 f1
      generalize hU1 : wr.setCell _ _ = V1
      have X4 := (unhide XM).set' hU1
      have O4 := own_set' (unhide HO) hU1 (by simp [Value.ownBlock]; exact hgd)
      have OU : Out (fun q => q = d) wr V1 := out_set' (Out.refl _ _) hU1 (.inl rfl)
      have OA : Out (fun q => q = d ∨ (Value.slice (some ⟨gw, 0, none⟩) D.words.length cw).ownBlock = some q) w V1 := ((unhide HU).weak (fun q _ e => .inr (by rw [e]; rfl))).trans OU (fun q _ e => .inl e)
      have R := (unhide H).fenced X4 (ws := keepAll D.words D.flights) (by rw [keepAll_len]; exact O4) OA
      go_end0
      exact ⟨rfl, _, _, _, R, OA.weak (fun q _ e => by rcases e with e | e; (exact .inl e); exact .inr (.inl e))⟩
theorem fenceDev_len (D : Dev) (k1 : D.words.length ≤ 1048576) (k3 : D.over.length ≤ 1048576) : (chgDev D 0 (fenceDev D)).words.length ≤ 1048576 ∧ (chgDev D 0 (fenceDev D)).flights.length ≤ 1048576 ∧ (chgDev D 0 (fenceDev D)).over.length ≤ 1048576 := by
  refine chgDev_len fun hg => ⟨?_, ?_, k3⟩
  · show (keepAll D.words D.flights).length ≤ _; rw [keepAll_len]; exact k1
  · show [].length ≤ _; simp
set_option maxHeartbeats 4000000 in
theorem specFenceDevice_any (a1 a2 a3 : Option Addr) (c1 c2 c3 : Nat) (D : Dev) (w : World) (h : DevAt w a1 a2 a3 D) (n1 : D.words.length ≤ 1048576) (n2 : D.flights.length ≤ 1048576) (n3 : D.over.length ≤ 1048576) :
    Calls Try.prog 21 #[.agg #[.slice a1 D.words.length c1, .slice a2 D.flights.length c2, .slice a3 D.over.length c3]] w fun e w' => ResRd e w.heap.size w' (chgCode D 0) (chgDev D 0 (fenceDev D)) ∧ Below w.heap.size w w' := by
  have H := hide h
  clear h
  go_enter Try.func21, Try.ntmps21
  go_wp2_with fail
  obtain ⟨W, hW, z1, hb, hx, hy⟩ := boxes2 w [.slice a1 D.words.length c1, .slice a2 D.flights.length c2, .slice a3 D.over.length c3] [.int .i64 0, .slice none 0 0, .slice none 0 0, .slice none 0 0] 27 31
  rw [← hW]
  clear hW
  refine (specDeviceFault_any a1 a2 a3 c1 c2 c3 D _ ((unhide H).below (unhide hb)) n1 n2 n3).mono ?_
  rintro e w2 ⟨rfl, hb2⟩
  have z2 : W.heap.size ≤ w2.heap.size := hb2.size
  have B2 := hide (below_step (unhide hb) hb2 (by omega))
  have H2 := hide ((unhide H).below (unhide B2))
  have X2 := hide ((unhide hx).below hb2)
  have Y2 := hide ((unhide hy).below hb2)
  have y0 := (unhide Y2).cell 0
  have y1 := (unhide Y2).cell 1
  have y2 := (unhide Y2).cell 2
  have y3 := (unhide Y2).cell 3
  have f0 := (unhide Y2).frozen 0
  have f1 := (unhide Y2).frozen 1
  have f2 := (unhide Y2).frozen 2
  have f3 := (unhide Y2).frozen 3
  simp at y0 y1 y2 y3
  have x0 := (unhide X2).cell 0
  have x1 := (unhide X2).cell 1
  have x2 := (unhide X2).cell 2
  simp at x0 x1 x2
  clear hb2 hb hx hy H
  by_cases hf : devFault D = 0
  case neg =>
    have hfb : (devFault D != 0) = true := by simpa using hf
    have HC : Hid (chgCode D 0 = devFault D ∧ chgDev D 0 (fenceDev D) = none') := by simp [Hid, chgCode, chgDev, hf]
    clear hf
    go_wp2_with fail
    clear y0 y1 y2 y3 f0 f1 f2 f3
    generalize hU : (((w2.setCell _ _).setCell _ _).setCell _ _).setCell _ _ = U
    obtain ⟨XU, OU⟩ := store4' (unhide Y2) hU
    have t0 := (unhide XU).cell 0
    have t1 := (unhide XU).cell 1
    have t2 := (unhide XU).cell 2
    have t3 := (unhide XU).cell 3
    simp at t0 t1 t2 t3
    refine bodyPost_ret (v := .agg #[.int .i64 (devFault D), .slice none 0 0, .slice none 0 0, .slice none 0 0]) (by simp [results, Try.results21, go_sem, t0, t1, t2, t3]) rfl ⟨⟨none, 0, none, 0, none, 0, by rw [(unhide HC).1, (unhide HC).2]; rfl, by rw [(unhide HC).2]; exact rNone _ _ _⟩, (unhide OU).below (unhide B2) (Nat.le_refl _) (fun q hq e => by omega)⟩
  have HF := hide hf
  have HG := hide (good_of hf)
  rw [hf]
  clear hf
  go_wp2_with fail
  have HC : Hid (chgCode D 0 = 0 ∧ chgDev D 0 (fenceDev D) = (fenceDev D)) := by simp [Hid, chgCode, chgDev, unhide HF]
  clear y0 y1 y2 y3 f0 f1 f2 f3 x0 x1 x2
  refine (l2Copy_any w.heap.size _ a1 a2 a3 c1 c2 c3 D _ (unhide X2) (unhide H2) (by have := (unhide HG).small; omega) n1 n2 n3).mono ?_
  rintro e w4 ⟨⟨v1, v2, v3, rfl, hS⟩, hb4⟩
  obtain ⟨s1, d1, s2, d2, s3, d3, e1, e2, e3, -⟩ := hS.form
  subst e1 e2 e3
  have z4 : w2.heap.size ≤ w4.heap.size := hb4.size
  have B4 := hide (below_step (unhide B2) hb4 (by omega))
  have Y4 := hide ((unhide Y2).below hb4)
  have S4 := hide hS
  have HS := hide (fun q hq => SDev.lt (q := q) hS hq)
  clear hb4 hS X2 H2 Y2 B2
  go_wp2_with fail
  obtain ⟨U, hW, z5, hb, hx⟩ := boxes1 w4 [.slice s1 D.words.length d1, .slice s2 D.flights.length d2, .slice s3 D.over.length d3] 27
  rw [← hW]
  clear hW
  have B5 := hide (below_step (unhide B4) (unhide hb) (by omega))
  have Y5 := hide ((unhide Y4).below (unhide hb))
  have S5 := hide ((unhide S4).below (unhide hb))
  have M5 : Hid (SMem U w2.heap.size w4.heap.size 27 (.slice s1 D.words.length d1) (.slice s2 D.flights.length d2) (.slice s3 D.over.length d3) D) := ⟨unhide hx, unhide S5, fun q hq e => by have := unhide HS q hq; omega⟩
  clear hb hx B4 Y4 S4 S5
  refine (l2Fence_any w4.heap.size _ _ _ _ _ D _ (unhide M5) (unhide HG) (by omega)).mono ?_
  rintro e w6 ⟨rfl, u1, u2, u3, hM, hO⟩
  obtain ⟨p1, q1, p2, q2, p3, q3, e1, e2, e3, hR⟩ := hM.dev.toR
  subst e1 e2 e3
  have z6 : U.heap.size ≤ w6.heap.size := hO.size
  have B6 := hide (hO.below (unhide B5) (Nat.le_refl _) (fun q hq e => by rcases e with e | e; (omega); have := unhide HS q e; omega))
  have Y6 := hide ((unhide Y5).out hO (fun e => by rcases e with e | e; (omega); have := unhide HS _ e; omega))
  have c0 := hM.box.cell 0
  have c1 := hM.box.cell 1
  have c2 := hM.box.cell 2
  simp at c0 c1 c2
  have HR := hide hR
  clear hR hM hO M5 B5 Y5
  have y0 := (unhide Y6).cell 0
  have y1 := (unhide Y6).cell 1
  have y2 := (unhide Y6).cell 2
  have y3 := (unhide Y6).cell 3
  have f0 := (unhide Y6).frozen 0
  have f1 := (unhide Y6).frozen 1
  have f2 := (unhide Y6).frozen 2
  have f3 := (unhide Y6).frozen 3
  simp at y0 y1 y2 y3
  go_wp2_with fail
  clear y0 y1 y2 y3 f0 f1 f2 f3
  generalize hU : (((w6.setCell _ _).setCell _ _).setCell _ _).setCell _ _ = V
  obtain ⟨XV, OV⟩ := store4' (unhide Y6) hU
  have t0 := (unhide XV).cell 0
  have t1 := (unhide XV).cell 1
  have t2 := (unhide XV).cell 2
  have t3 := (unhide XV).cell 3
  simp at t0 t1 t2 t3
  have zV : w6.heap.size ≤ V.heap.size := (unhide OV).size
  have R7 := ((unhide HR).out (unhide OV) (fun q h1 h2 e => by omega)).wide (lo' := w.heap.size) (hi' := V.heap.size) (by omega) zV
  refine bodyPost_ret (v := .agg #[.int .i64 0, .slice p1 (fenceDev D).words.length q1, .slice p2 (fenceDev D).flights.length q2, .slice p3 (fenceDev D).over.length q3]) (by simp [results, Try.results21, go_sem, t0, t1, t2, t3]) rfl ⟨⟨_, _, _, _, _, _, by rw [(unhide HC).1, (unhide HC).2], by rw [(unhide HC).2]; exact R7⟩, (unhide OV).below (unhide B6) (Nat.le_refl _) (fun q hq e => by omega)⟩

end Go.Proofs.Ytgckkehlnahfmaa
