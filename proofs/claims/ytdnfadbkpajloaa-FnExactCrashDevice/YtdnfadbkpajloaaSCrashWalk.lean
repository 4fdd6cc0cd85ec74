/-
  A crash, as the specification does it.
-/
import Derived.Test.YtdnfadbkpajloaaCrashWalk
namespace Go.Proofs.Ytdnfadbkpajloaa
open Go.RowKit
set_option linter.unusedVariables false

theorem SMem.crashed {w w' : World} {base d : Nat} {t : TypeId} {v1 v2 v3 : Value} {D : Dev} {ws : List Int} (h : SMem w base d t v1 v2 v3 D) (hx : Box w' d [v1, .slice none 0 0, .slice none 0 0] t) (hw : w'.ownsRow base 2 1 v1 ws.length (nums ws)) :
    SMem w' base d t v1 (.slice none 0 0) (.slice none 0 0) ⟨ws, [], []⟩ := by
  refine ⟨hx, ⟨hw, .inl ⟨rfl, none, rfl, .inl rfl⟩, .inl ⟨rfl, none, rfl, .inl rfl⟩, fun hl => absurd rfl hl, fun hl => absurd rfl hl, fun hl => absurd rfl hl⟩, ?_⟩
  rintro q (h1 | ⟨hl, h1⟩ | ⟨hl, h1⟩) e
  · exact h.nd q (.inl h1) e
  · exact absurd rfl hl
  · exact absurd rfl hl

set_option maxRecDepth 20000 in
set_option maxHeartbeats 4000000 in
theorem l2Crash_any (d : Nat) (t : TypeId) (base : Nat) (v1 v2 v3 : Value) (D : Dev) (af : Option Addr) (cf : Nat) (fs : List Int) (w : World) (h : SMem w base d t v1 v2 v3 D) (hg : Good D) (hI : IntsAt w af fs) (hfz : fs ≠ [] → ∀ x, af = some x → x.block < base) (hlen : fs.length = D.flights.length + D.over.length) (n2 : D.flights.length ≤ 1048576) (n3 : D.over.length ≤ 1048576) :
    Calls Try.prog 79 #[.pointer (some ⟨d, 0, none⟩), .slice af fs.length cf] w fun e w' => e = .returned (.tuple #[]) ∧ ∃ u1 u2 u3, SMem w' base d t u1 u2 u3 (crashDev D fs) ∧ Out (fun q => q = d ∨ SB v1 v2 v3 D q) w w' := by
  obtain ⟨s1, d1, s2, d2, s3, d3, e1, e2, e3, hDA⟩ := h.dev.form
  subst e1 e2 e3
  obtain ⟨gw, ow, rfl, -⟩ := hDA.r1.at (k := 0) (by have := hg.small; omega)
  have eow : ow = 0 := by
    rcases h.dev.o1.2 with ⟨e, _⟩ | ⟨g, cap, cur, e, _⟩
    · cases e
    · injection e with e; injection e with e; injection e
  subst eow
  have hgd : gw ≠ d := h.nd gw (.inl rfl)
  have hgb := h.dev.o1.lt gw rfl
  have hdl := h.box.lt
  have H := hide h
  have HG := hide hg
  have HI := hide hI
  have HFZ := hide hfz
  have HLEN := hide hlen
  have R2 := hide hDA.r2
  have R3 := hide hDA.r3
  have hn4 : fs.length ≤ 2200000 := by omega
  clear h hg hI hfz hlen hDA
  go_enter Try.func79, Try.ntmps79
  go_wp2_with fail
  refine (l2Cells_any d t _ s2 s3 d2 d3 D.flights D.over _ (unhide H).box (unhide R2) (unhide R3) n2 n3).mono ?_
  rintro e w1 ⟨⟨v, rfl, hO⟩, hb⟩
  obtain ⟨CL, hCL⟩ : ∃ CL, CL = D.flights ++ D.over := ⟨_, rfl⟩
  rw [← List.length_append, ← hCL] at hO
  have HLENC : Hid (fs.length = CL.length) := by rw [Hid, hCL, List.length_append]; exact unhide HLEN
  have HAL : Hid (allCells D.words.length CL = true) := by rw [Hid, hCL, allCells_append, (unhide HG).flights, (unhide HG).over]; rfl
  have HDV : Hid (crashDev D fs = ⟨crashAll D.words (CL.zip fs), [], []⟩) := by rw [Hid, hCL]; rfl
  clear hCL HLEN
  obtain ⟨a5, c5, ev, -⟩ := pairsAt_own hO
  subst ev
  have z1 : w.heap.size ≤ w1.heap.size := hb.size
  have B5 := hide hb
  have L5 := hide hO
  have HLB := hide (fun q hq => (hO.lt q hq).1)
  have HI5 := hide ((unhide HI).below hb)
  clear hb hO
  go_wp2_with fail
  go_loopw [5] (fun i wr => ∃ k : Nat, k ≤ CL.length ∧ i = .int .i64 k ∧ Hid (wr.ownsRow base 2 1 (.slice (some ⟨gw, 0, none⟩) D.words.length d1) D.words.length (nums (crashAll D.words ((CL.zip fs).take k)))) ∧ Hid (Out (fun q => q = gw) w1 wr)) (fun i _ => CL.length - (intOf i).toNat)
  case atStart => exact ⟨0, Nat.zero_le _, rfl, by have := own_below (unhide H).dev.o1 (unhide B5); simpa [Hid, crashAll] using this, Out.refl _ _⟩
  case round =>
    obtain ⟨k, hk, rfl, HO, HU⟩ := hrel
    have zr : w1.heap.size ≤ wr.heap.size := (unhide HU).size
    have XM := hide (((unhide H).box.below (unhide B5)).out (unhide HU) (fun e => hgd e.symm))
    have q0 := (unhide XM).cell 0
    simp at q0
    by_cases hlt : k < CL.length
    · have hlf : k < fs.length := by have := unhide HLENC; omega
      obtain ⟨b, o, rfl, lb, hc⟩ := (pairsAt_slice ((unhide HU).own (unhide L5) (fun q hq e => by have := unhide HLB q hq; omega))).at hlt
      have hfne : fs ≠ [] := by intro e; rw [e] at hlf; simp at hlf
      obtain ⟨bf, of, rfl, lbf, hcf⟩ := (unhide HI5).at hlf
      have hbz := unhide HFZ hfne _ rfl
      have hfk := ((unhide HU).cell (b := bf) lbf (by have : bf < base := hbz; omega) (of + k)).trans (hcf k hlf)
      have hca := (hc k hlt).1
      have hcb := (hc k hlt).2
      have hat := cellOk_at (unhide HAL) hlt
      have hKT := crashAll_take hlt hlf D.words
      clear hc hcf hbz hfne
      have k0 : (0 : Int) ≤ (k : Int) := by omega
      have k1 : (k : Int) < CL.length := by omega
      have k2 : (k : Int) < fs.length := by omega
      generalize hA : CL[k].1 = A at *
      generalize hV : CL[k].2 = V at *
      generalize hFF : fs[k] = F at *
      clear hA hV hFF
      by_cases hF1 : F = 1
      · rw [if_pos hF1] at hKT
        have HKT := hide hKT
        have heb : (F == 1) = true := by simpa using hF1
        clear hKT hF1
        have hln : A.toNat < (nums (crashAll D.words ((CL.zip fs).take k))).length := by rw [nums_length, crashAll_len]; omega
        obtain ⟨ov, hcw⟩ : ∃ ov, wr.cell? ⟨gw, A.toNat, none⟩ = some ov := ⟨_, by rw [(unhide HO).cellAt A.toNat (by have := (unhide HO).1; omega), List.getElem?_eq_getElem hln]⟩
        have hfw := (unhide HO).frozenAt A.toNat
        have O3 := hide ((unhide HO).stored A.toNat (.int .i64 V)).1
        rw [nums_set, ← unhide HKT] at O3
        have U3 := hide ((unhide HU).setCell (p := ⟨gw, A.toNat, none⟩) (.inl rfl) (.int .i64 V))
        clear XM HKT HO HU hln
        have hl0 : 0 ≤ A := hat.1
        have hl1 : A < D.words.length := hat.2
        clear hat
        go_wp2_with fail
        go_region
        all_goals
          go_wp2_with fail
          go_roundw
          case rel => exact ⟨k + 1, by omega, by go_num, O3, outDrew (unhide U3)⟩
          case measure => simp [intOf]; omega
      · rw [if_neg hF1] at hKT
        have HKT := hide hKT
        have heb : (F == 1) = false := by simpa using hF1
        clear hKT hF1 XM
        go_wp2_with fail
        go_roundw
        case rel => exact ⟨k + 1, by omega, by go_num, by rw [unhide HKT]; exact HO, HU⟩
        case measure => simp [intOf]; omega
    · have hke : k = CL.length := by omega
      subst hke
      have HTK : Hid ((CL.zip fs).take CL.length = CL.zip fs) := by rw [Hid, List.take_of_length_le]; rw [List.length_zip]; omega
      rw [unhide HTK] at HO
      clear HTK
      have q1 := (unhide XM).cell 1
      have q2 := (unhide XM).cell 2
      have f1 := (unhide XM).frozen 1
      have f2 := (unhide XM).frozen 2
      simp at q1 q2
      go_wp2_with fail
      clear q0 q1 q2 f1 f2
      generalize hU1 : wr.setCell _ _ = V1
      generalize hU2 : V1.setCell _ _ = V2
      have X4 := ((unhide XM).set' hU1).set' hU2
      have OU : Out (fun q => q = d) wr V2 := out_set' (out_set' (Out.refl _ _) hU1 (.inl rfl)) hU2 (.inl rfl)
      have O4 := OU.own (unhide HO) (fun q hq e => hgd (by simp [Value.ownBlock] at hq; omega))
      have OA : Out (fun q => q = d ∨ SB (.slice (some ⟨gw, 0, none⟩) D.words.length d1) (.slice s2 D.flights.length d2) (.slice s3 D.over.length d3) D q) w V2 := ((Out.ofBelow (unhide B5)).trans (unhide HU) (fun q _ e => .inr (.inl (by rw [e]; rfl)))).trans OU (fun q _ e => .inl e)
      have R := (unhide H).crashed X4 (ws := crashAll D.words (CL.zip fs)) (by rw [crashAll_len]; exact O4)
      go_end0
      exact ⟨rfl, _, _, _, by rw [unhide HDV]; exact R, OA⟩
set_option maxHeartbeats 4000000 in
theorem specCrashDevice_any (a1 a2 a3 : Option Addr) (c1 c2 c3 : Nat) (D : Dev) (af : Option Addr) (cf : Nat) (fs : List Int) (w : World) (h : DevAt w a1 a2 a3 D) (n1 : D.words.length ≤ 1048576) (n2 : D.flights.length ≤ 1048576) (n3 : D.over.length ≤ 1048576) (hI : IntsAt w af fs) (n4 : fs.length ≤ 1048576) :
    Calls Try.prog 16 #[.agg #[.slice a1 D.words.length c1, .slice a2 D.flights.length c2, .slice a3 D.over.length c3], .slice af fs.length cf] w fun e w' => ResRd e w.heap.size w' (chgCode D (crashCode D fs)) (chgDev D (crashCode D fs) (crashDev D fs)) ∧ Below w.heap.size w w' := by
  have H := hide h
  have HI := hide hI
  clear h hI
  go_enter Try.func16, Try.ntmps16
  go_wp2_with fail
  obtain ⟨W, hW, z1, hb, hx, hy⟩ := boxes2 w [.slice a1 D.words.length c1, .slice a2 D.flights.length c2, .slice a3 D.over.length c3] [.int .i64 0, .slice none 0 0, .slice none 0 0, .slice none 0 0] 27 31
  rw [← hW]
  clear hW
  refine (specDeviceFault_any a1 a2 a3 c1 c2 c3 D _ ((unhide H).below (unhide hb)) n1 n2 n3).mono ?_
  rintro e w2 ⟨rfl, hb2⟩
  have z2 : W.heap.size ≤ w2.heap.size := hb2.size
  have B2 := hide (below_step (unhide hb) hb2 (by omega))
  have H2 := hide ((unhide H).below (unhide B2))
  have X2 := hide ((unhide hx).below hb2)
  have Y2 := hide ((unhide hy).below hb2)
  have y0 := (unhide Y2).cell 0
  have y1 := (unhide Y2).cell 1
  have y2 := (unhide Y2).cell 2
  have y3 := (unhide Y2).cell 3
  have f0 := (unhide Y2).frozen 0
  have f1 := (unhide Y2).frozen 1
  have f2 := (unhide Y2).frozen 2
  have f3 := (unhide Y2).frozen 3
  simp at y0 y1 y2 y3
  have x0 := (unhide X2).cell 0
  have x1 := (unhide X2).cell 1
  have x2 := (unhide X2).cell 2
  simp at x0 x1 x2
  clear hb2 hb hx hy H
  by_cases hf : devFault D = 0
  case neg =>
    have hfb : (devFault D != 0) = true := by simpa using hf
    have HC : Hid (chgCode D (crashCode D fs) = devFault D ∧ chgDev D (crashCode D fs) (crashDev D fs) = none') := by simp [Hid, chgCode, chgDev, hf]
    clear hf
    go_wp2_with fail
    clear y0 y1 y2 y3 f0 f1 f2 f3
    generalize hU : (((w2.setCell _ _).setCell _ _).setCell _ _).setCell _ _ = U
    obtain ⟨XU, OU⟩ := store4' (unhide Y2) hU
    have t0 := (unhide XU).cell 0
    have t1 := (unhide XU).cell 1
    have t2 := (unhide XU).cell 2
    have t3 := (unhide XU).cell 3
    simp at t0 t1 t2 t3
    refine bodyPost_ret (v := .agg #[.int .i64 (devFault D), .slice none 0 0, .slice none 0 0, .slice none 0 0]) (by simp [results, Try.results16, go_sem, t0, t1, t2, t3]) rfl ⟨⟨none, 0, none, 0, none, 0, by rw [(unhide HC).1, (unhide HC).2]; rfl, by rw [(unhide HC).2]; exact rNone _ _ _⟩, (unhide OU).below (unhide B2) (Nat.le_refl _) (fun q hq e => by omega)⟩
  have HF := hide hf
  have HG := hide (good_of hf)
  rw [hf]
  clear hf
  have HI2 := hide ((unhide HI).below (unhide B2))
  by_cases hlen : fs.length = D.flights.length + D.over.length
  case neg =>
    have hne : ((fs.length : Int) != (D.flights.length : Int) + D.over.length) = true := by simp; omega
    have HC : Hid (chgCode D (crashCode D fs) = 2 ∧ chgDev D (crashCode D fs) (crashDev D fs) = none') := by simp [Hid, chgCode, chgDev, crashCode, unhide HF, hlen]
    clear hlen
    go_wp2_with fail
    clear y0 y1 y2 y3 f0 f1 f2 f3
    generalize hU : (((w2.setCell _ _).setCell _ _).setCell _ _).setCell _ _ = U
    obtain ⟨XU, OU⟩ := store4' (unhide Y2) hU
    have t0 := (unhide XU).cell 0
    have t1 := (unhide XU).cell 1
    have t2 := (unhide XU).cell 2
    have t3 := (unhide XU).cell 3
    simp at t0 t1 t2 t3
    refine bodyPost_ret (v := .agg #[.int .i64 2, .slice none 0 0, .slice none 0 0, .slice none 0 0]) (by simp [results, Try.results16, go_sem, t0, t1, t2, t3]) rfl ⟨⟨none, 0, none, 0, none, 0, by rw [(unhide HC).1, (unhide HC).2]; rfl, by rw [(unhide HC).2]; exact rNone _ _ _⟩, (unhide OU).below (unhide B2) (Nat.le_refl _) (fun q hq e => by omega)⟩
  have hne : ((fs.length : Int) != (D.flights.length : Int) + D.over.length) = false := by simp; omega
  have HLEN := hide hlen
  clear hlen
  go_wp2_with fail
  clear hne
  go_loop [6] (fun i => ∃ k : Nat, k ≤ fs.length ∧ i = .int .i64 k ∧ Hid (∀ j (hj : j < fs.length), j < k → fateOk fs[j] = true)) (fun i => fs.length - (intOf i).toNat)
  case atStart => exact ⟨0, Nat.zero_le _, rfl, fun j _ hj => absurd hj (Nat.not_lt_zero j)⟩
  case round =>
    obtain ⟨k, hk, rfl, HX⟩ := hrel
    by_cases hlt : k < fs.length
    · obtain ⟨b, o, rfl, -, hc⟩ := (unhide HI2).at hlt
      have hck := hc k hlt
      have k0 : (0 : Int) ≤ (k : Int) := by omega
      have k1 : (k : Int) < fs.length := by omega
      clear hc
      cases hq : fateOk fs[k]
      · have HC : Hid (chgCode D (crashCode D fs) = 3 ∧ chgDev D (crashCode D fs) (crashDev D fs) = none') := by
          have := allFates_false hlt hq
          simp [Hid, chgCode, chgDev, crashCode, unhide HF, unhide HLEN, this]
        have HQ : Hid (inB fs[k] 0 1 = false) := hq
        clear hq
        go_wp2_with fail
        refine (l1In_any _ 0 1 _).mono ?_
        rintro e w3 ⟨rfl, rfl⟩
        rw [unhide HQ]
        go_wp2_with fail
        clear y0 y1 y2 y3 f0 f1 f2 f3
        generalize hU : (((w3.setCell _ _).setCell _ _).setCell _ _).setCell _ _ = U
        obtain ⟨XU, OU⟩ := store4' (unhide Y2) hU
        have t0 := (unhide XU).cell 0
        have t1 := (unhide XU).cell 1
        have t2 := (unhide XU).cell 2
        have t3 := (unhide XU).cell 3
        simp at t0 t1 t2 t3
        refine bodyPost_ret (v := .agg #[.int .i64 3, .slice none 0 0, .slice none 0 0, .slice none 0 0]) (by simp [results, Try.results16, go_sem, t0, t1, t2, t3]) rfl ⟨⟨none, 0, none, 0, none, 0, by rw [(unhide HC).1, (unhide HC).2]; rfl, by rw [(unhide HC).2]; exact rNone _ _ _⟩, (unhide OU).below (unhide B2) (Nat.le_refl _) (fun q hq e => by omega)⟩
      · have HX2 : Hid (∀ j (hj : j < fs.length), j < k + 1 → fateOk fs[j] = true) := by
          intro j hj hj1
          by_cases e : j = k
          · subst e; exact hq
          · exact unhide HX j hj (by omega)
        have HQ : Hid (inB fs[k] 0 1 = true) := hq
        clear hq
        go_wp2_with fail
        refine (l1In_any _ 0 1 _).mono ?_
        rintro e w3 ⟨rfl, rfl⟩
        rw [unhide HQ]
        go_wp2_with fail
        go_round
        case rel => exact ⟨k + 1, by omega, by go_num, HX2⟩
        case measure => simp [intOf]; omega
    · have HC : Hid (chgCode D (crashCode D fs) = 0 ∧ chgDev D (crashCode D fs) (crashDev D fs) = (crashDev D fs)) := by
        have := allFates_true (fun j hj => unhide HX j hj (by omega))
        simp [Hid, chgCode, chgDev, crashCode, unhide HF, unhide HLEN, this]
      have k1 : ¬ (k : Int) < fs.length := by omega
      clear HX
      go_wp2_with fail
      clear y0 y1 y2 y3 f0 f1 f2 f3 x0 x1 x2
      refine (l2Copy_any w.heap.size _ a1 a2 a3 c1 c2 c3 D _ (unhide X2) (unhide H2) (by have := (unhide HG).small; omega) n1 n2 n3).mono ?_
      rintro e w4 ⟨⟨v1, v2, v3, rfl, hS⟩, hb4⟩
      obtain ⟨s1, d1, s2, d2, s3, d3, e1, e2, e3, -⟩ := hS.form
      subst e1 e2 e3
      have z4 : w2.heap.size ≤ w4.heap.size := hb4.size
      have B4 := hide (below_step (unhide B2) hb4 (by omega))
      have Y4 := hide ((unhide Y2).below hb4)
      have S4 := hide hS
      have HS := hide (fun q hq => SDev.lt (q := q) hS hq)
      clear hb4 hS X2 H2 Y2 B2
      go_wp2_with fail
      obtain ⟨U, hW, z5, hb, hx⟩ := boxes1 w4 [.slice s1 D.words.length d1, .slice s2 D.flights.length d2, .slice s3 D.over.length d3] 27
      rw [← hW]
      clear hW
      have B5 := hide (below_step (unhide B4) (unhide hb) (by omega))
      have Y5 := hide ((unhide Y4).below (unhide hb))
      have S5 := hide ((unhide S4).below (unhide hb))
      have M5 : Hid (SMem U w2.heap.size w4.heap.size 27 (.slice s1 D.words.length d1) (.slice s2 D.flights.length d2) (.slice s3 D.over.length d3) D) := ⟨unhide hx, unhide S5, fun q hq e => by have := unhide HS q hq; omega⟩
      clear hb hx B4 Y4 S4 S5
      have HIU := hide ((unhide HI).below (unhide B5))
      refine (l2Crash_any w4.heap.size _ _ _ _ _ D af cf fs _ (unhide M5) (unhide HG) (unhide HIU) (fun hne x hx => by rcases unhide HI with e | ⟨b, o, e, l, _⟩; (exact absurd e hne); rw [e] at hx; injection hx with hx; subst hx; show b < _; omega) (unhide HLEN) n2 n3).mono ?_
      rintro e w6 ⟨rfl, u1, u2, u3, hM, hO⟩
      obtain ⟨p1, q1, p2, q2, p3, q3, e1, e2, e3, hR⟩ := hM.dev.toR
      subst e1 e2 e3
      have z6 : U.heap.size ≤ w6.heap.size := hO.size
      have B6 := hide (hO.below (unhide B5) (Nat.le_refl _) (fun q hq e => by rcases e with e | e; (omega); have := unhide HS q e; omega))
      have Y6 := hide ((unhide Y5).out hO (fun e => by rcases e with e | e; (omega); have := unhide HS _ e; omega))
      have c0 := hM.box.cell 0
      have c1 := hM.box.cell 1
      have c2 := hM.box.cell 2
      simp at c0 c1 c2
      have HR := hide hR
      clear hR hM hO M5 B5 Y5
      have y0 := (unhide Y6).cell 0
      have y1 := (unhide Y6).cell 1
      have y2 := (unhide Y6).cell 2
      have y3 := (unhide Y6).cell 3
      have f0 := (unhide Y6).frozen 0
      have f1 := (unhide Y6).frozen 1
      have f2 := (unhide Y6).frozen 2
      have f3 := (unhide Y6).frozen 3
      simp at y0 y1 y2 y3
      go_wp2_with fail
      clear y0 y1 y2 y3 f0 f1 f2 f3
      generalize hU : (((w6.setCell _ _).setCell _ _).setCell _ _).setCell _ _ = V
      obtain ⟨XV, OV⟩ := store4' (unhide Y6) hU
      have t0 := (unhide XV).cell 0
      have t1 := (unhide XV).cell 1
      have t2 := (unhide XV).cell 2
      have t3 := (unhide XV).cell 3
      simp at t0 t1 t2 t3
      have zV : w6.heap.size ≤ V.heap.size := (unhide OV).size
      have R7 := ((unhide HR).out (unhide OV) (fun q h1 h2 e => by omega)).wide (lo' := w.heap.size) (hi' := V.heap.size) (by omega) zV
      refine bodyPost_ret (v := .agg #[.int .i64 0, .slice p1 (crashDev D fs).words.length q1, .slice p2 (crashDev D fs).flights.length q2, .slice p3 (crashDev D fs).over.length q3]) (by simp [results, Try.results16, go_sem, t0, t1, t2, t3]) rfl ⟨⟨_, _, _, _, _, _, by rw [(unhide HC).1, (unhide HC).2], by rw [(unhide HC).2]; exact R7⟩, (unhide OV).below (unhide B6) (Nat.le_refl _) (fun q hq e => by omega)⟩

theorem crashDev_len (D : Dev) (fs : List Int) (k1 : D.words.length ≤ 1048576) : (chgDev D (crashCode D fs) (crashDev D fs)).words.length ≤ 1048576 ∧ (chgDev D (crashCode D fs) (crashDev D fs)).flights.length ≤ 1048576 ∧ (chgDev D (crashCode D fs) (crashDev D fs)).over.length ≤ 1048576 := by
  refine chgDev_len fun hg => ⟨?_, ?_, ?_⟩
  · show (crashAll D.words _).length ≤ _; rw [crashAll_len]; exact k1
  · show [].length ≤ _; simp
  · show [].length ≤ _; simp
end Go.Proofs.Ytdnfadbkpajloaa
