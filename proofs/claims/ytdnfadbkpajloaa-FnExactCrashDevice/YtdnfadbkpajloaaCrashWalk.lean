/-
  A crash, as the program does it: what the fates keep is kept.
-/
import Derived.Test.YtdnfadbkpajloaaConcatWalk
namespace Go.Proofs.Ytdnfadbkpajloaa
open Go.RowKit
set_option linter.unusedVariables false

def crashAll (ws : List Int) (l : List ((Int × Int) × Int)) : List Int := l.foldl (fun ws p => if p.2 = 1 then keepW ws p.1 else ws) ws
theorem crashAll_len (l : List ((Int × Int) × Int)) : ∀ ws : List Int, (crashAll ws l).length = ws.length := by
  induction l with
  | nil => intro ws; rfl
  | cons c l ih =>
    intro ws
    rw [crashAll, List.foldl_cons, ← crashAll, ih]
    split
    · simp [keepW]
    · rfl
theorem crashAll_take {cs : List (Int × Int)} {fs : List Int} {k : Nat} (hk : k < cs.length) (hf : k < fs.length) (ws : List Int) : crashAll ws ((cs.zip fs).take (k + 1)) = if fs[k] = 1 then (crashAll ws ((cs.zip fs).take k)).set cs[k].1.toNat cs[k].2 else crashAll ws ((cs.zip fs).take k) := by
  have hz : k < (cs.zip fs).length := by rw [List.length_zip]; omega
  rw [List.take_succ_eq_append_getElem hz, crashAll, List.foldl_append]
  simp only [List.foldl_cons, List.foldl_nil, List.getElem_zip]
  rfl
def crashCode (D : Dev) (fs : List Int) : Int := if fs.length = D.flights.length + D.over.length then (if allFates fs = true then 0 else 3) else 2
def crashDev (D : Dev) (fs : List Int) : Dev := ⟨crashAll D.words ((D.flights ++ D.over).zip fs), [], []⟩
theorem pairsAt_slice {w : World} {base n c : Nat} {a : Option Addr} {l : List (Int × Int)} (h : w.ownsRow base 42 2 (.slice a n c) n (prs l)) : PairsAt w a l := by
  obtain ⟨a0, c0, e, -, hp, -⟩ := pairsAt_own h
  injection e with e
  subst e
  exact hp

theorem Mem.crashed {w w' : World} {m : Nat} {wv fo oo : Value} {fm om : Nat} {D : Dev} (h : Mem w m wv fo oo fm om D) {fm' om' : Nat} {ws : List Int} (hx : Box w' m [wv, .slice none 0 0, .map (some fm'), .slice none 0 0, .map (some om')] 201) (hw : w'.ownsRow 0 2 1 wv ws.length (nums ws)) (hC : CM w' (.slice none 0 0) fm' []) (hC2 : CM w' (.slice none 0 0) om' []) (hq : w.heap.size ≤ fm') (hq2 : w.heap.size ≤ om') (hne : fm' ≠ om') :
    Chg m wv fo oo fm om w w' ⟨ws, [], []⟩ := by
  have hnew : ∀ z q, w.heap.size ≤ z → CMB (.slice none 0 0) z q → w.heap.size ≤ q := by
    intro z q hz hqq
    rcases hqq with hqq | rfl
    · simp [Value.ownBlock] at hqq
    · exact hz
  refine ⟨wv, .slice none 0 0, .slice none 0 0, fm', om', ⟨hx, hw, hC, hC2, h.s1, fun e => ?_, fun e => ?_, fun q hq' e => ?_, fun q hq' e => ?_, fun q h1 h2 => ?_⟩, ?_⟩
  · have := hnew _ m hq e; have := h.box.lt; omega
  · have := hnew _ m hq2 e; have := h.box.lt; omega
  · have := hnew _ q hq e; have := (h.words.lt q hq').2; omega
  · have := hnew _ q hq2 e; have := (h.words.lt q hq').2; omega
  · rcases h1 with h1 | h1
    · simp [Value.ownBlock] at h1
    · rcases h2 with h2 | h2
      · simp [Value.ownBlock] at h2
      · exact hne (by rw [← h1, h2])
  · intro q hqq
    rcases hqq with rfl | hqq | hqq | hqq
    · exact .inl (.inl rfl)
    · exact .inl (.inr (.inl hqq))
    · exact .inr (hnew _ q hq hqq)
    · exact .inr (hnew _ q hq2 hqq)

set_option maxRecDepth 20000 in
set_option maxHeartbeats 4000000 in
theorem memCells_any (m : Nat) (wv fo oo : Value) (fm om : Nat) (D : Dev) (w : World) (h : Mem w m wv fo oo fm om D) (n2 : D.flights.length ≤ 1100000) (n3 : D.over.length ≤ 1100000) :
    Calls Try.prog 139 #[.pointer (some ⟨m, 0, none⟩)] w fun e w' => (∃ a c CL, CL = D.flights ++ D.over ∧ e = .returned (.slice a (List.length CL) c) ∧ w'.ownsRow w.heap.size 42 2 (.slice a (List.length CL) c) (List.length CL) (prs CL)) ∧ Below w.heap.size w w' := by
  have HMd : Hid (Mem w.drew m wv fo oo fm om D) := h.stay (fun _ _ _ => rfl)
  have lm := h.box.lt
  clear h
  go_enter Try.func139, Try.ntmps139
  go_wp2_with fail
  go_region_with (first
    | (go_at_call 193; have _t := M2; refine (list_any m 3 om oo D.over _ ((unhide M2).box.cell 3) ((unhide M2).box.cell 4) (unhide M2).ov (by omega)).mono ?_; rintro e w3 ⟨⟨a3, c3, rfl, hO3⟩, hb3⟩; have B3 := hide (below_step (unhide B2) hb3 (unhide B2).size); have L3 := hide hO3; have L23 := hide (own_below (unhide L2) hb3); clear _t hO3 hb3)
    | (go_at_call 193; refine (list_any m 1 fm fo D.flights _ ((unhide HMd).box.cell 1) ((unhide HMd).box.cell 2) (unhide HMd).fl (by omega)).mono ?_; rintro e w2 ⟨⟨a2, c2, rfl, hO2⟩, hb2⟩; have M2 := hide ((unhide HMd).below hb2); have B2 : Hid (Below w.heap.size w w2) := (below_undrew hb2); have L2 := hide hO2; clear hO2 hb2)
    | (go_at_call 194; refine (concat_any w3.heap.size a2 a3 c2 c3 D.flights D.over _ ((box_new w3 [.slice a2 D.flights.length c2, .slice a3 D.over.length c3] _).cell 0) ((box_new w3 [.slice a2 D.flights.length c2, .slice a3 D.over.length c3] _).cell 1) (pairsAt_slice (own_below (unhide L23) ((Below.refl _ w3).alloc (Nat.le_refl _) _))) (pairsAt_slice (own_below (unhide L3) ((Below.refl _ w3).alloc (Nat.le_refl _) _))) n2 n3).mono ?_; rintro e w5 ⟨⟨a5, c5, rfl, hO5⟩, hb5⟩; obtain ⟨CL, hCL⟩ : ∃ CL, CL = D.flights ++ D.over := ⟨_, rfl⟩; rw [← hCL] at hO5 ⊢; have HCL := hide hCL; clear hCL; have B5 := hide (below_step (unhide B3) (below_step ((Below.refl _ w3).alloc (Nat.le_refl _) _) hb5 (by simp)) (unhide B3).size); have L5 := hide hO5; have z5 := (unhide B3).size; clear hO5 hb5))
  all_goals
    have HLB := hide (fun q hq => Nat.le_trans (show w.heap.size ≤ _ by simp; omega) ((unhide L5).lt q hq).1)
    go_wp2_with fail
    go_ret
    exact ⟨⟨_, _, CL, unhide HCL, rfl, own_base (unhide L5) (unhide HLB)⟩, unhide B5⟩
set_option maxRecDepth 20000 in
set_option maxHeartbeats 4000000 in
theorem crash_any (m : Nat) (wv fo oo : Value) (fm om : Nat) (D : Dev) (af : Option Addr) (cf : Nat) (fs : List Int) (z : Nat) (w : World) (h : Mem w m wv fo oo fm om D) (hg : Good D) (hz : ∀ q, MemB m wv fo oo fm om q → z ≤ q) (hI : IntsAt w af fs) (hfz : fs ≠ [] → ∀ x, af = some x → x.block < z) (n2 : D.flights.length ≤ 1100000) (n3 : D.over.length ≤ 1100000) (n4 : fs.length ≤ 1100000) :
    Calls Try.prog 72 #[.pointer (some ⟨m, 0, none⟩), .slice af fs.length cf] w fun e w' => e = .returned (.int .i64 (crashCode D fs)) ∧ (crashCode D fs = 0 → Chg m wv fo oo fm om w w' (crashDev D fs)) ∧ Out (MemB m wv fo oo fm om) w w' := by
  obtain ⟨aw, cw, ew, -, hIw, -⟩ := intsAt_own h.words
  obtain ⟨gw, ow, eaw, -⟩ := hIw.at (k := 0) (by have := hg.small; omega)
  have how0 := h.words
  subst ew
  subst eaw
  have eow : ow = 0 := by
    rcases how0.2 with ⟨e, _⟩ | ⟨g, cap, cur, e, _⟩
    · cases e
    · injection e with e; injection e with e; injection e
  subst eow
  have hsz := hg.small
  have lgw := (h.words.lt gw rfl).2
  have zgw : z ≤ gw := hz gw (.inr (.inl rfl))
  have lm := h.box.lt
  have hgm : gw ≠ m := fun e => h.s1 (by rw [← e]; rfl)
  have H := hide h
  have HMd : Hid (Mem w.drew m (.slice (some ⟨gw, 0, none⟩) D.words.length cw) fo oo fm om D) := h.stay (fun _ _ _ => rfl)
  have HG := hide hg
  have HI := hide hI
  have HFZ := hide hfz
  clear h hg how0 hIw hI hfz hz
  go_enter Try.func72, Try.ntmps72
  go_wp2_with fail
  refine (memCells_any m (.slice (some ⟨gw, 0, none⟩) D.words.length cw) fo oo fm om D _ (unhide H) n2 n3).mono ?_
  rintro e w5 ⟨⟨a5, c5, CL, hCL, rfl, hO5⟩, hb5⟩
  have HCL := hide hCL
  have L5 := hide hO5
  have B5 := hide hb5
  clear hCL hO5 hb5
  all_goals
    have HLB := hide (fun q hq => ((unhide L5).lt q hq).1)
    have hAll : allCells D.words.length CL = true := by rw [unhide HCL, allCells_append, (unhide HG).flights, (unhide HG).over]; rfl
    have hcc : crashCode D fs = if fs.length = CL.length then (if allFates fs = true then 0 else 3) else 2 := by rw [unhide HCL, crashCode, List.length_append]
    have HDV : Hid (crashDev D fs = ⟨crashAll D.words (CL.zip fs), [], []⟩) := by rw [Hid, unhide HCL]; rfl
    have hnb : CL.length ≤ 2200000 := by rw [unhide HCL, List.length_append]; omega
    clear HMd
    have z6 := (unhide B5).size
    have HI5 := hide ((unhide HI).below (unhide B5))
    by_cases hlen : fs.length = CL.length
    case neg =>
      have hne : ((fs.length : Int) != CL.length) = true := by simp; omega
      have HC : Hid (crashCode D fs = 2) := by rw [Hid, hcc, if_neg hlen]
      clear hcc hlen
      go_wp2_with fail
      go_ret
      exact ⟨ret_int (unhide HC).symm, (fun e => by rw [unhide HC] at e; cases e), Out.ofBelow (unhide B5)⟩
    have hne : ((fs.length : Int) != CL.length) = false := by simp; omega
    rw [if_pos hlen] at hcc
    have HLEN := hide hlen
    clear hlen
    go_wp2_with fail
    refine (areFates_any af cf fs _ (unhide HI5) (by omega)).mono ?_
    rintro e w6 ⟨rfl, rfl⟩
    cases hfa : allFates fs
    · have HC : Hid (crashCode D fs = 3) := by rw [Hid, hcc, hfa]; rfl
      clear hcc hfa
      go_wp2_with fail
      go_ret
      exact ⟨ret_int (unhide HC).symm, (fun e => by rw [unhide HC] at e; cases e), Out.ofBelow (unhide B5)⟩
    have HC : Hid (crashCode D fs = 0) := by rw [Hid, hcc, hfa]; rfl
    clear hcc hfa hne
    have HAL := hide hAll
    clear hAll
    go_wp2_with fail
    go_loopw [20] (fun i wr => ∃ k : Nat, k ≤ CL.length ∧ i = .int .i64 k ∧ Hid (wr.ownsRow 0 2 1 (.slice (some ⟨gw, 0, none⟩) D.words.length cw) D.words.length (nums (crashAll D.words ((CL.zip fs).take k)))) ∧ Hid (Out (fun q => q = gw) w6 wr)) (fun i _ => CL.length - (intOf i).toNat)
    case atStart => exact ⟨0, Nat.zero_le _, rfl, by have := own_below (unhide H).words (unhide B5); simpa [Hid, crashAll] using this, Out.refl _ _⟩
    case round =>
      obtain ⟨k, hk, rfl, HO, HU⟩ := hrel
      have zr : w6.heap.size ≤ wr.heap.size := (unhide HU).size
      have XM := hide (((unhide H).box.below (unhide B5)).out (unhide HU) (fun e => hgm e.symm))
      by_cases hlt : k < CL.length
      · have hlf : k < fs.length := by have := unhide HLEN; omega
        obtain ⟨b, o, rfl, lb, hc⟩ := (pairsAt_slice ((unhide HU).own (unhide L5) (fun q hq e => by have := unhide HLB q hq; omega))).at hlt
        have hfne : fs ≠ [] := by intro e; rw [e] at hlf; simp at hlf
        obtain ⟨bf, of, rfl, lbf, hcf⟩ := (unhide HI5).at hlf
        have hbz := unhide HFZ hfne _ rfl
        have hfk := ((unhide HU).cell (b := bf) lbf (by have : bf < z := hbz; omega) (of + k)).trans (hcf k hlf)
        have lbr : bf < wr.heap.size := by omega
        have hca := (hc k hlt).1
        have hcb := (hc k hlt).2
        have hat := cellOk_at (unhide HAL) hlt
        have hKT := crashAll_take hlt hlf D.words
        clear hc hcf hbz hfne
        have k0 : (0 : Int) ≤ (k : Int) := by omega
        have k1 : (k : Int) < CL.length := by omega
        have k2 : (k : Int) < fs.length := by omega
        generalize hA : CL[k].1 = A at *
        generalize hV : CL[k].2 = V at *
        generalize hFF : fs[k] = F at *
        clear hA hV hFF
        by_cases hF1 : F = 1
        · rw [if_pos hF1] at hKT
          have HKT := hide hKT
          have heb : (F == 1) = true := by simpa using hF1
          clear hKT hF1
          go_wp2_with fail
          obtain ⟨W, hW, z2, hb, hx⟩ := boxes1 wr [.int .i64 A, .int .i64 V] 42
          rw [← hW]
          clear hW
          have XM2 := hide ((unhide XM).below (unhide hb))
          have O2 := hide (own_below (unhide HO) (unhide hb))
          have U2 := hide ((unhide HU).trans (Out.ofBelow (F := fun q => q = gw) (unhide hb)) (fun _ _ h => h))
          have q0 := (unhide XM2).cell 0
          have p0 := (unhide hx).cell 0
          have p1 := (unhide hx).cell 1
          simp at q0 p0 p1
          have hln : A.toNat < (nums (crashAll D.words ((CL.zip fs).take k))).length := by rw [nums_length, crashAll_len]; omega
          obtain ⟨ov, hcw⟩ : ∃ ov, W.cell? ⟨gw, A.toNat, none⟩ = some ov := ⟨_, by rw [(unhide O2).cellAt A.toNat (by have := (unhide O2).1; omega), List.getElem?_eq_getElem hln]⟩
          have hfw := (unhide O2).frozenAt A.toNat
          have O3 := hide ((unhide O2).stored A.toNat (.int .i64 V)).1
          rw [nums_set, ← unhide HKT] at O3
          have U3 := hide ((unhide U2).setCell (p := ⟨gw, A.toNat, none⟩) (.inl rfl) (.int .i64 V))
          clear hx hb XM XM2 HKT HO HU O2 U2 hca hcb hln hfk
          have hl0 : 0 ≤ A := hat.1
          have hl1 : A < D.words.length := hat.2
          clear hat
          go_region
          all_goals
            go_wp2_with fail
            go_roundw
            case rel => exact ⟨k + 1, by omega, by go_num, O3, outDrew (unhide U3)⟩
            case measure => simp [intOf]; omega
        · rw [if_neg hF1] at hKT
          have HKT := hide hKT
          have heb : (F == 1) = false := by simpa using hF1
          have BA := hide ((Below.refl _ wr).alloc (Nat.le_refl _) (.cells #[.int .i64 A, .int .i64 V] 42))
          have O2 := hide (own_below (unhide HO) (unhide BA))
          have U2 := hide ((unhide HU).trans (Out.ofBelow (F := fun q => q = gw) (unhide BA)) (fun _ _ h => h))
          clear hKT hF1 HO HU XM
          go_wp2_with fail
          go_roundw
          case rel => exact ⟨k + 1, by omega, by go_num, by rw [unhide HKT]; exact O2, U2⟩
          case measure => simp [intOf]; omega
      · have hke : k = CL.length := by omega
        subst hke
        have HTK : Hid ((CL.zip fs).take CL.length = CL.zip fs) := by rw [Hid, List.take_of_length_le]; rw [List.length_zip]; omega
        rw [unhide HTK] at HO
        clear HTK
        go_wp2_with fail
        refine (noCells_any _).mono ?_
        rintro e w7 ⟨rfl, hCM, hb3⟩
        have z7 : wr.heap.size ≤ w7.heap.size := hb3.size
        have zq : wr.heap.size + 1 < w7.heap.size := hCM.map.lt
        have X3 := hide ((unhide XM).below hb3)
        have O3 := hide (own_below (unhide HO) hb3)
        have C3 := hide hCM
        have U3 := hide ((unhide HU).trans (Out.ofBelow (F := fun q => q = gw) hb3) (fun _ _ h => h))
        clear hCM hb3 XM HO HU
        generalize hmb : wr.heap.size + 1 = mb at *
        have hmw : w.heap.size < mb := by omega
        clear hmb
        have y1 := (unhide X3).cell 1
        have y2 := (unhide X3).cell 2
        have f1 := (unhide X3).frozen 1
        have f2 := (unhide X3).frozen 2
        simp at y1 y2
        go_wp2_with fail
        clear y1 y2 f1 f2
        obtain ⟨V2, hV2, X4, O4, C4, U4, z8⟩ : ∃ V2, V2 = (w7.setCell ⟨m, 1, none⟩ (.slice none 0 0)).setCell ⟨m, 2, none⟩ (.map (some mb)) ∧ Hid (Box V2 m [.slice (some ⟨gw, 0, none⟩) D.words.length cw, .slice none 0 0, .map (some mb), oo, .map (some om)] 201) ∧ Hid (V2.ownsRow 0 2 1 (.slice (some ⟨gw, 0, none⟩) D.words.length cw) D.words.length (nums (crashAll D.words (CL.zip fs)))) ∧ Hid (CM V2 (.slice none 0 0) mb []) ∧ Hid (Out (fun q => q = m ∨ q = gw) w6 V2) ∧ w7.heap.size ≤ V2.heap.size := by
          have OU : Out (fun q => q = m) w7 ((w7.setCell ⟨m, 1, none⟩ (.slice none 0 0)).setCell ⟨m, 2, none⟩ (.map (some mb))) := out_set' (out_set' (Out.refl _ _) rfl (.inl rfl)) rfl (.inl rfl)
          exact ⟨_, rfl, ((unhide X3).set' rfl).set' rfl, OU.own (unhide O3) (fun q hq e => hgm (by simp [Value.ownBlock] at hq; omega)), (unhide C3).out OU (fun q hq e => by rcases hq with hq | hq; (simp [Value.ownBlock] at hq); omega), ((unhide U3).weak (fun q _ e => .inr e)).trans OU (fun q _ e => .inl e), OU.size⟩
        rw [← hV2]
        clear hV2 X3 O3 C3 U3
        refine (noCells_any _).mono ?_
        rintro e w8 ⟨rfl, hCM, hb3⟩
        have z9 : V2.heap.size ≤ w8.heap.size := hb3.size
        have zq2 : V2.heap.size + 1 < w8.heap.size := hCM.map.lt
        have X5 := hide ((unhide X4).below hb3)
        have O5 := hide (own_below (unhide O4) hb3)
        have C5 := hide ((unhide C4).below hb3)
        have D5 := hide hCM
        have U5 := hide ((unhide U4).trans (Out.ofBelow (F := fun q => q = m ∨ q = gw) hb3) (fun _ _ h => h))
        clear hCM hb3 X4 O4 C4 U4
        generalize hmb : V2.heap.size + 1 = mb2 at *
        have hmw2 : w.heap.size < mb2 := by omega
        have hmne : mb < mb2 := by omega
        clear hmb
        have y1 := (unhide X5).cell 3
        have y2 := (unhide X5).cell 4
        have f1 := (unhide X5).frozen 3
        have f2 := (unhide X5).frozen 4
        simp at y1 y2
        go_wp2_with fail
        clear y1 y2 f1 f2
        generalize hU1 : w8.setCell _ _ = V3
        generalize hU2 : V3.setCell _ _ = V4
        have X6 := ((unhide X5).set' hU1).set' hU2
        have OU : Out (fun q => q = m) w8 V4 := out_set' (out_set' (Out.refl _ _) hU1 (.inl rfl)) hU2 (.inl rfl)
        have O6 := OU.own (unhide O5) (fun q hq e => hgm (by simp [Value.ownBlock] at hq; omega))
        have C6 := (unhide C5).out OU (fun q hq e => by rcases hq with hq | hq; (simp [Value.ownBlock] at hq); omega)
        have D6 := (unhide D5).out OU (fun q hq e => by rcases hq with hq | hq; (simp [Value.ownBlock] at hq); omega)
        have OA : Out (MemB m (.slice (some ⟨gw, 0, none⟩) D.words.length cw) fo oo fm om) w V4 := ((Out.ofBelow (unhide B5)).trans (unhide U5) (fun q _ e => by rcases e with e | e; (exact .inl e); exact .inr (.inl (by rw [e]; rfl)))).trans OU (fun q _ e => .inl e)
        have R := (unhide H).crashed X6 (ws := crashAll D.words (CL.zip fs)) (by rw [crashAll_len]; exact O6) C6 D6 (by omega) (by omega) (by omega)
        go_ret
        exact ⟨ret_int (unhide HC).symm, fun _ => by rw [unhide HDV]; exact R, OA⟩
set_option maxHeartbeats 2000000 in
theorem changed_crash (a1 a2 a3 : Option Addr) (c1 c2 c3 : Nat) (D D' : Dev) (code : Int) (p0 : Nat) (w : World) (h : DevAt w a1 a2 a3 D) (n1 : D.words.length ≤ 1048576) (n2 : D.flights.length ≤ 1048576) (n3 : D.over.length ≤ 1048576) (m2 : D'.flights.length ≤ 10000000) (m3 : D'.over.length ≤ 10000000)
    (hch : Good D → ∀ w2, Below w.heap.size w w2 → ∀ m wv fo oo fm om, Mem w2 m wv fo oo fm om D → (∀ q, MemB m wv fo oo fm om q → w.heap.size ≤ q) → Calls Try.prog 71 #[.pointer (some ⟨m, 0, none⟩), .pointer (some ⟨p0, 0, none⟩)] w2 fun e w3 => e = .returned (.int .i64 code) ∧ (code = 0 → Chg m wv fo oo fm om w2 w3 D') ∧ Out (MemB m wv fo oo fm om) w2 w3) :
    Calls Try.prog 70 #[.agg #[.slice a1 D.words.length c1, .slice a2 D.flights.length c2, .slice a3 D.over.length c3], .func (.func 71) #[] #[.pointer (some ⟨p0, 0, none⟩)]] w fun e w' => ResIs e w.heap.size w' (chgCode D code) (chgDev D code D') ∧ Below w.heap.size w w' := by
  have H := hide h
  have HCH := hide hch
  clear h hch
  go_enter Try.func70, Try.ntmps70
  go_wp2_with fail
  obtain ⟨W, hW, z1, hb, hx, hy⟩ := boxes2 w [.slice a1 D.words.length c1, .slice a2 D.flights.length c2, .slice a3 D.over.length c3] [.int .i64 0, .slice none 0 0, .slice none 0 0, .slice none 0 0] 27 31
  rw [← hW]
  clear hW
  refine (openedDevice_any a1 a2 a3 c1 c2 c3 D _ ((unhide H).below (unhide hb)) n1 n2 n3).mono ?_
  rintro e w2 ⟨hor, hb2⟩
  have z2 : W.heap.size ≤ w2.heap.size := hb2.size
  have B2 := hide (below_step (unhide hb) hb2 (by omega))
  have Y2 := hide ((unhide hy).below hb2)
  have y0 := (unhide Y2).cell 0
  have y1 := (unhide Y2).cell 1
  have y2 := (unhide Y2).cell 2
  have y3 := (unhide Y2).cell 3
  have f0 := (unhide Y2).frozen 0
  have f1 := (unhide Y2).frozen 1
  have f2 := (unhide Y2).frozen 2
  have f3 := (unhide Y2).frozen 3
  simp at y0 y1 y2 y3
  clear hb2 hb hx hy H
  rcases hor with ⟨hg, m, wv, fo, oo, fm, om, rfl, hM, hL⟩ | ⟨hf, rfl⟩
  case inr =>
    have hfb : (devFault D != 0) = true := by simpa using hf
    have HC : Hid (chgCode D code = devFault D ∧ chgDev D code D' = none') := by simp [Hid, chgCode, chgDev, hf]
    clear hf
    go_wp2_with fail
    clear y0 y1 y2 y3 f0 f1 f2 f3
    generalize hU : (((w2.setCell _ _).setCell _ _).setCell _ _).setCell _ _ = U
    obtain ⟨XU, OU⟩ := store4' (unhide Y2) hU
    have t0 := (unhide XU).cell 0
    have t1 := (unhide XU).cell 1
    have t2 := (unhide XU).cell 2
    have t3 := (unhide XU).cell 3
    simp at t0 t1 t2 t3
    refine bodyPost_ret (v := .agg #[.int .i64 (devFault D), .slice none 0 0, .slice none 0 0, .slice none 0 0]) (by simp [results, Try.results70, go_sem, t0, t1, t2, t3]) rfl ⟨⟨_, _, _, by rw [(unhide HC).1], by rw [(unhide HC).2]; exact ownNone _ _⟩, (unhide OU).below (unhide B2) (Nat.le_refl _) (fun q hq e => by omega)⟩
  have HD0 := hide (devFault_good hg)
  have HG := hide hg
  have HM := hide hM
  have HL := hide hL
  clear hg hM hL
  go_wp2_with fail
  refine (unhide HCH (unhide HG) _ (unhide B2) m wv fo oo fm om (unhide HM) (fun q hq => by have := unhide HL q hq; omega)).mono ?_
  rintro e w3 ⟨rfl, hC, hO⟩
  have z3 : w2.heap.size ≤ w3.heap.size := hO.size
  have B3 := hide (hO.below (unhide B2) (Nat.le_refl _) (fun q hq e => by have := unhide HL q e; omega))
  have Y3 := hide ((unhide Y2).out hO (fun e => by have := unhide HL _ e; omega))
  clear hO y0 y1 y2 y3 f0 f1 f2 f3 Y2 B2
  have y0 := (unhide Y3).cell 0
  have y1 := (unhide Y3).cell 1
  have y2 := (unhide Y3).cell 2
  have y3 := (unhide Y3).cell 3
  have f0 := (unhide Y3).frozen 0
  have f1 := (unhide Y3).frozen 1
  have f2 := (unhide Y3).frozen 2
  have f3 := (unhide Y3).frozen 3
  simp at y0 y1 y2 y3
  by_cases hc : code = 0
  case neg =>
    have hcb : (code != 0) = true := by simpa using hc
    have HC : Hid (chgCode D code = code ∧ chgDev D code D' = none') := by simp [Hid, chgCode, chgDev, hc, unhide HD0]
    clear hc hC
    go_wp2_with fail
    clear y0 y1 y2 y3 f0 f1 f2 f3
    generalize hU : (((w3.setCell _ _).setCell _ _).setCell _ _).setCell _ _ = U
    obtain ⟨XU, OU⟩ := store4' (unhide Y3) hU
    have t0 := (unhide XU).cell 0
    have t1 := (unhide XU).cell 1
    have t2 := (unhide XU).cell 2
    have t3 := (unhide XU).cell 3
    simp at t0 t1 t2 t3
    refine bodyPost_ret (v := .agg #[.int .i64 code, .slice none 0 0, .slice none 0 0, .slice none 0 0]) (by simp [results, Try.results70, go_sem, t0, t1, t2, t3]) rfl ⟨⟨_, _, _, by rw [(unhide HC).1], by rw [(unhide HC).2]; exact ownNone _ _⟩, (unhide OU).below (unhide B3) (Nat.le_refl _) (fun q hq e => by omega)⟩
  obtain ⟨wv', fo', oo', fm', om', hM', hL'⟩ := hC hc
  have HC : Hid (chgCode D code = 0 ∧ chgDev D code D' = D') := by simp [Hid, chgCode, chgDev, hc, unhide HD0]
  rw [hc]
  clear hc hC
  have HM' := hide hM'
  have HL' : Hid (∀ q, MemB m wv' fo' oo' fm' om' q → W.heap.size ≤ q) := fun q hq => by
    rcases hL' q hq with h | h
    · exact unhide HL q h
    · omega
  clear hM' hL'
  go_wp2_with fail
  refine (device_any m wv' fo' oo' fm' om' D' W.heap.size _ (unhide HM') (unhide HL') (by omega) m2 m3).mono ?_
  rintro e w4 ⟨⟨s1, d1, s2, d2, s3, d3, rfl, hOD⟩, hb4⟩
  have z4 : w3.heap.size ≤ w4.heap.size := hb4.size
  have B4 := hide (below_step (unhide B3) hb4 (by omega))
  have Y4 := hide ((unhide Y3).below hb4)
  have OD := hide hOD
  clear hb4 hOD y0 y1 y2 y3 f0 f1 f2 f3 B3 Y3
  have y0 := (unhide Y4).cell 0
  have y1 := (unhide Y4).cell 1
  have y2 := (unhide Y4).cell 2
  have y3 := (unhide Y4).cell 3
  have f0 := (unhide Y4).frozen 0
  have f1 := (unhide Y4).frozen 1
  have f2 := (unhide Y4).frozen 2
  have f3 := (unhide Y4).frozen 3
  simp at y0 y1 y2 y3
  go_wp2_with fail
  clear y0 y1 y2 y3 f0 f1 f2 f3
  generalize hU : (((w4.setCell _ _).setCell _ _).setCell _ _).setCell _ _ = U
  obtain ⟨XU, OU⟩ := store4' (unhide Y4) hU
  have t0 := (unhide XU).cell 0
  have t1 := (unhide XU).cell 1
  have t2 := (unhide XU).cell 2
  have t3 := (unhide XU).cell 3
  simp at t0 t1 t2 t3
  have OD4 := (unhide OD).out (unhide OU) (fun q hq e => by have := ((unhide OD).lt hq).1; omega)
  have OD5 : OwnDev U w.heap.size (.slice s1 D'.words.length d1) (.slice s2 D'.flights.length d2) (.slice s3 D'.over.length d3) D' := ⟨own_base OD4.o1 (fun q hq => by have := (OD4.lt (.inl hq)).1; omega), own_base OD4.o2 (fun q hq => by have := (OD4.lt (.inr (.inl hq))).1; omega), own_base OD4.o3 (fun q hq => by have := (OD4.lt (.inr (.inr hq))).1; omega), OD4.n12, OD4.n13, OD4.n23⟩
  refine bodyPost_ret (v := .agg #[.int .i64 0, .slice s1 D'.words.length d1, .slice s2 D'.flights.length d2, .slice s3 D'.over.length d3]) (by simp [results, Try.results70, go_sem, t0, t1, t2, t3]) rfl ⟨⟨_, _, _, by rw [(unhide HC).1], by rw [(unhide HC).2]; exact OD5⟩, (unhide OU).below (unhide B4) (Nat.le_refl _) (fun q hq e => by omega)⟩

set_option maxHeartbeats 1000000 in
theorem crashFn_any (m : Nat) (wv fo oo : Value) (fm om : Nat) (D : Dev) (af : Option Addr) (cf : Nat) (fs : List Int) (z p0 : Nat) (w : World) (h : Mem w m wv fo oo fm om D) (hg : Good D) (hz : ∀ q, MemB m wv fo oo fm om q → z ≤ q) (hI : IntsAt w af fs) (hfz : fs ≠ [] → ∀ x, af = some x → x.block < z) (n2 : D.flights.length ≤ 1100000) (n3 : D.over.length ≤ 1100000) (n4 : fs.length ≤ 1100000) (h0 : w.cell? ⟨p0, 0, none⟩ = some (.slice af fs.length cf)) :
    Calls Try.prog 71 #[.pointer (some ⟨m, 0, none⟩), .pointer (some ⟨p0, 0, none⟩)] w fun e w' => e = .returned (.int .i64 (crashCode D fs)) ∧ (crashCode D fs = 0 → Chg m wv fo oo fm om w w' (crashDev D fs)) ∧ Out (MemB m wv fo oo fm om) w w' := by
  have H := hide h
  have HI := hide hI
  have HZ := hide hz
  have HFZ := hide hfz
  clear h hI hz hfz
  go_enter Try.func71, Try.ntmps71
  go_wp2_with fail
  refine (crash_any m wv fo oo fm om D af cf fs z _ (unhide H) hg (unhide HZ) (unhide HI) (unhide HFZ) n2 n3 n4).mono ?_
  rintro e w2 ⟨rfl, hC, hO⟩
  have HC := hide hC
  have HO := hide hO
  clear hC hO
  generalize hk : crashCode D fs = k at *
  have HK := hide hk
  clear hk
  go_wp2_with fail
  go_ret
  exact ⟨ret_int (unhide HK).symm, fun e => unhide HC (by rw [← unhide HK]; exact e), unhide HO⟩
set_option maxHeartbeats 2000000 in
theorem implCrashDevice_any (a1 a2 a3 : Option Addr) (c1 c2 c3 : Nat) (D : Dev) (af : Option Addr) (cf : Nat) (fs : List Int) (w : World) (h : DevAt w a1 a2 a3 D) (hI : IntsAt w af fs) (n1 : D.words.length ≤ 1048576) (n2 : D.flights.length ≤ 1048576) (n3 : D.over.length ≤ 1048576) (n4 : fs.length ≤ 1048576) :
    Calls Try.prog 13 #[.agg #[.slice a1 D.words.length c1, .slice a2 D.flights.length c2, .slice a3 D.over.length c3], .slice af fs.length cf] w fun e w' => ResIs e w.heap.size w' (chgCode D (crashCode D fs)) (chgDev D (crashCode D fs) (crashDev D fs)) ∧ Below w.heap.size w w' := by
  have hmf : ∀ (fn : Fn) (first cap : Array Value) (w : World), (Instr.makeFunc fn first cap).run Try.prog w = .ok (.func fn first cap) w := fun _ _ _ _ => rfl
  have H := hide h
  have HI := hide hI
  clear h hI
  go_enter Try.func13, Try.ntmps13
  go_wp2_with fail
  obtain ⟨W, hW, z1, hb, hx, hp, hy⟩ := boxes3 w [.slice a1 D.words.length c1, .slice a2 D.flights.length c2, .slice a3 D.over.length c3] [.slice af fs.length cf] [.int .i64 0, .slice none 0 0, .slice none 0 0, .slice none 0 0] 27 24 31
  rw [← hW]
  clear hW
  refine (changed_crash a1 a2 a3 c1 c2 c3 D (crashDev D fs) (crashCode D fs) _ _ ((unhide H).below (unhide hb)) n1 n2 n3 (by show [].length ≤ _; simp) (by show [].length ≤ _; simp) (fun hg w2 hb2 m wv fo oo fm om hM hz => crashFn_any m wv fo oo fm om D af cf fs W.heap.size _ w2 hM hg hz ((unhide HI).below (below_step (unhide hb) hb2 (by omega))) (fun hne x hx => by rcases unhide HI with e | ⟨b, o, e, l, _⟩; (exact absurd e hne); rw [e] at hx; injection hx with hx; subst hx; show b < _; omega) (by omega) (by omega) (by omega) (((unhide hp).below hb2).cell 0))).mono ?_
  rintro e w2 ⟨⟨v1, v2, v3, rfl, hOD⟩, hb2⟩
  obtain ⟨s1, d1, s2, d2, s3, d3, e1, e2, e3, -⟩ := hOD.form
  subst e1 e2 e3
  have z2 : W.heap.size ≤ w2.heap.size := hb2.size
  have B2 := hide (below_step (unhide hb) hb2 (by omega))
  have Y2 := hide ((unhide hy).below hb2)
  have OD := hide hOD
  have y0 := (unhide Y2).cell 0
  have y1 := (unhide Y2).cell 1
  have y2 := (unhide Y2).cell 2
  have y3 := (unhide Y2).cell 3
  have f0 := (unhide Y2).frozen 0
  have f1 := (unhide Y2).frozen 1
  have f2 := (unhide Y2).frozen 2
  have f3 := (unhide Y2).frozen 3
  simp at y0 y1 y2 y3
  clear hb2 hOD hb hx hp hy
  go_wp2_with fail
  clear y0 y1 y2 y3 f0 f1 f2 f3
  generalize hU : (((w2.setCell _ _).setCell _ _).setCell _ _).setCell _ _ = U
  obtain ⟨XU, OU⟩ := store4' (unhide Y2) hU
  have t0 := (unhide XU).cell 0
  have t1 := (unhide XU).cell 1
  have t2 := (unhide XU).cell 2
  have t3 := (unhide XU).cell 3
  simp at t0 t1 t2 t3
  have OD4 := (unhide OD).out (unhide OU) (fun q hq e => by have := ((unhide OD).lt hq).1; omega)
  have OD5 := OD4.base (base' := w.heap.size) (by omega)
  refine bodyPost_ret (by simp [results, Try.results13, go_sem, t0, t1, t2, t3]) rfl ⟨⟨_, _, _, rfl, OD5⟩, (unhide OU).below (unhide B2) (Nat.le_refl _) (fun q hq e => by omega)⟩
end Go.Proofs.Ytdnfadbkpajloaa
