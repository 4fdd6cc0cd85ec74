/-
  The fence, as the program does it: what is in flight is kept.
-/
import Derived.Test.YtgckkehlnahfmaaStoreWalk
import Derived.BigRegion
namespace Go.Proofs.Ytgckkehlnahfmaa
open Go.RowKit
set_option linter.unusedVariables false

def keepAll (ws : List Int) (l : List (Int × Int)) : List Int := l.foldl keepW ws
def fenceDev (D : Dev) : Dev := ⟨keepAll D.words D.flights, [], D.over⟩
theorem keepAll_len (l : List (Int × Int)) : ∀ ws : List Int, (keepAll ws l).length = ws.length := by
  induction l with
  | nil => intro ws; rfl
  | cons c l ih => intro ws; rw [keepAll, List.foldl_cons, ← keepAll, ih]; simp [keepW]
theorem keepAll_take {l : List (Int × Int)} {k : Nat} (hk : k < l.length) (ws : List Int) : keepAll ws (l.take (k + 1)) = (keepAll ws (l.take k)).set l[k].1.toNat l[k].2 := by
  rw [List.take_succ_eq_append_getElem hk, keepAll, List.foldl_append]; rfl
theorem cellOk_at {n : Nat} {l : List (Int × Int)} (h : allCells n l = true) {k : Nat} (hk : k < l.length) : 0 ≤ l[k].1 ∧ l[k].1 < n := by
  rw [allCells, List.all_eq_true] at h
  have h1 := h _ (List.getElem_mem hk)
  rw [cellOk, Bool.and_eq_true] at h1
  have := inB_true.1 h1.1
  omega

theorem outDrew {F : Nat → Prop} {w w' : World} (h : Out F w w') : Hid (Out F w w'.drew) := ⟨h.os, h.tape, h.output, h.size, h.block⟩
theorem Mem.fenced {w w' : World} {m : Nat} {wv fo oo : Value} {fm om : Nat} {D : Dev} (h : Mem w m wv fo oo fm om D) {fm' : Nat} {ws : List Int} (hx : Box w' m [wv, .slice none 0 0, .map (some fm'), oo, .map (some om)] 98) (hw : w'.ownsRow 0 2 1 wv ws.length (nums ws)) (hC : CM w' (.slice none 0 0) fm' []) (hq : w.heap.size ≤ fm') (ho : Out (fun q => q = m ∨ wv.ownBlock = some q) w w') :
    Chg m wv fo oo fm om w w' ⟨ws, [], D.over⟩ := by
  have hnew : ∀ q, CMB (.slice none 0 0) fm' q → w.heap.size ≤ q := by
    intro q hqq
    rcases hqq with hqq | rfl
    · simp [Value.ownBlock] at hqq
    · exact hq
  refine ⟨wv, .slice none 0 0, oo, fm', om, ⟨hx, hw, hC, h.ov.out ho (fun q hq e => ?_), h.s1, fun e => ?_, h.s3, fun q hq e => ?_, h.s5, fun q hq e => ?_⟩, ?_⟩
  · rcases e with rfl | e
    · exact h.s3 hq
    · exact h.s5 q e hq
  · have := hnew m e; have := h.box.lt; omega
  · have := hnew q e; have := (h.words.lt q hq).2; omega
  · have := hnew q hq; have := h.ov.lt e; omega
  · intro q hqq
    rcases hqq with rfl | hqq | hqq | hqq
    · exact .inl (.inl rfl)
    · exact .inl (.inr (.inl hqq))
    · exact .inr (hnew q hqq)
    · exact .inl (.inr (.inr (.inr hqq)))

set_option maxRecDepth 20000 in
set_option maxHeartbeats 2000000 in
theorem fence_any (m : Nat) (wv fo oo : Value) (fm om : Nat) (D : Dev) (w : World) (h : Mem w m wv fo oo fm om D) (hg : Good D) (n2 : D.flights.length ≤ 10000000) :
    Calls Try.prog 57 #[.pointer (some ⟨m, 0, none⟩)] w fun e w' => e = .returned (.int .i64 0) ∧ ((0 : Int) = 0 → Chg m wv fo oo fm om w w' (fenceDev D)) ∧ Out (MemB m wv fo oo fm om) w w' := by
  obtain ⟨aw, cw, ew, -, hIw, -⟩ := intsAt_own h.words
  obtain ⟨gw, ow, eaw, -⟩ := hIw.at (k := 0) (by have := hg.small; omega)
  have how0 := h.words
  subst ew
  subst eaw
  have eow : ow = 0 := by
    rcases how0.2 with ⟨e, _⟩ | ⟨g, cap, cur, e, _⟩
    · cases e
    · injection e with e; injection e with e; injection e
  subst eow
  have hsz := hg.small
  have lgw := (h.words.lt gw rfl).2
  have lm := h.box.lt
  have hgm : gw ≠ m := fun e => h.s1 (by rw [← e]; rfl)
  have H := hide h
  have HG := hide hg
  clear h hg how0 hIw
  go_enter Try.func57, Try.ntmps57
  go_wp2_with fail
  refine (list_any m 1 fm fo D.flights _ ((unhide H).box.cell 1) ((unhide H).box.cell 2) (unhide H).fl n2).mono ?_
  rintro e w1 ⟨⟨a, c, rfl, hOw⟩, hb1⟩
  have z1 : w.heap.size ≤ w1.heap.size := hb1.size
  have B1 := hide hb1
  have HL := hide hOw
  have HLB := hide (fun q hq => (hOw.lt q hq).1)
  clear hOw hb1
  go_wp2_with fail
  go_loopw [10] (fun i wr => ∃ k : Nat, k ≤ D.flights.length ∧ i = .int .i64 k ∧ Hid (wr.ownsRow 0 2 1 (.slice (some ⟨gw, 0, none⟩) D.words.length cw) D.words.length (nums (keepAll D.words (D.flights.take k)))) ∧ Hid (Out (fun q => q = gw) w1 wr)) (fun i _ => D.flights.length - (intOf i).toNat)
  case atStart => exact ⟨0, Nat.zero_le _, rfl, by have := own_below (unhide H).words (unhide B1); simpa [Hid, keepAll] using this, Out.refl _ _⟩
  case round =>
    obtain ⟨k, hk, rfl, HO, HU⟩ := hrel
    have zr : w1.heap.size ≤ wr.heap.size := (unhide HU).size
    have XM := hide (((unhide H).box.below (unhide B1)).out (unhide HU) (fun e => hgm e.symm))
    by_cases hlt : k < D.flights.length
    · have hL2 := (unhide HU).own (unhide HL) (fun q hq e => by have := unhide HLB q hq; omega)
      obtain ⟨a0, c0, e0, -, hP, -⟩ := pairsAt_own hL2
      injection e0 with e1 e2 e3
      subst e1 e3
      obtain ⟨b, o, rfl, lb, hc⟩ := hP.at hlt
      have hck := hc k hlt
      have hca := hck.1
      have hcb := hck.2
      have hat := cellOk_at (unhide HG).flights hlt
      clear hck hc hP hL2 e2
      generalize hA : D.flights[k].1 = A at *
      generalize hV : D.flights[k].2 = V at *
      have HKT : Hid (keepAll D.words (D.flights.take (k + 1)) = (keepAll D.words (D.flights.take k)).set A.toNat V) := by rw [← hA, ← hV]; exact keepAll_take hlt _
      clear hA hV
      go_wp2_with fail
      obtain ⟨W, hW, z2, hb, hx⟩ := boxes1 wr [.int .i64 A, .int .i64 V] 47
      rw [← hW]
      clear hW
      have XM2 := hide ((unhide XM).below (unhide hb))
      have O2 := hide (own_below (unhide HO) (unhide hb))
      have U2 := hide ((unhide HU).trans (Out.ofBelow (F := fun q => q = gw) (unhide hb)) (fun _ _ h => h))
      have q0 := (unhide XM2).cell 0
      have p0 := (unhide hx).cell 0
      have p1 := (unhide hx).cell 1
      simp at q0 p0 p1
      have hln : A.toNat < (nums (keepAll D.words (D.flights.take k))).length := by rw [nums_length, keepAll_len]; omega
      obtain ⟨ov, hcw⟩ : ∃ ov, W.cell? ⟨gw, A.toNat, none⟩ = some ov := ⟨_, by rw [(unhide O2).cellAt A.toNat (by have := (unhide O2).1; omega), List.getElem?_eq_getElem hln]⟩
      have hfw := (unhide O2).frozenAt A.toNat
      have O3 := hide ((unhide O2).stored A.toNat (.int .i64 V)).1
      rw [nums_set, ← unhide HKT] at O3
      have U3 := hide ((unhide U2).setCell (p := ⟨gw, A.toNat, none⟩) (.inl rfl) (.int .i64 V))
      clear hx hb XM XM2 HKT HO HU O2 U2 hca hcb hln
      have hl0 : 0 ≤ A := hat.1
      have hl1 : A < D.words.length := hat.2
      clear hat
      go_wp2_with fail
      go_region
      all_goals
        go_wp2_with fail
        go_roundw
        case rel => exact ⟨k + 1, by omega, by go_num, O3, outDrew (unhide U3)⟩
        case measure => simp [intOf]; omega
    · have hke : k = D.flights.length := by omega
      subst hke
      rw [List.take_length] at HO
      go_wp2_with fail
      refine (noCells_any _).mono ?_
      rintro e w3 ⟨rfl, hCM, hb3⟩
      have z3 : wr.heap.size ≤ w3.heap.size := hb3.size
      have zq : wr.heap.size + 1 < w3.heap.size := hCM.map.lt
      have X3 := hide ((unhide XM).below hb3)
      have O3 := hide (own_below (unhide HO) hb3)
      have C3 := hide hCM
      have U3 := hide ((unhide HU).trans (Out.ofBelow (F := fun q => q = gw) hb3) (fun _ _ h => h))
      clear hCM hb3 XM HO HU
      generalize hmb : wr.heap.size + 1 = mb at *
      have hmw : w.heap.size < mb := by omega
      clear hmb
      have y1 := (unhide X3).cell 1
      have y2 := (unhide X3).cell 2
      have f1 := (unhide X3).frozen 1
      have f2 := (unhide X3).frozen 2
      simp at y1 y2
      go_wp2_with fail
      clear y1 y2 f1 f2
      generalize hU1 : w3.setCell _ _ = V1
      generalize hU2 : V1.setCell _ _ = V2
      have X4 := ((unhide X3).set' hU1).set' hU2
      have O4 := own_set' (own_set' (unhide O3) hU1 (by simp [Value.ownBlock]; exact hgm)) hU2 (by simp [Value.ownBlock]; exact hgm)
      have OU : Out (fun q => q = m) w3 V2 := out_set' (out_set' (Out.refl _ _) hU1 (.inl rfl)) hU2 (.inl rfl)
      have C4 := (unhide C3).out OU (fun q hq e => by rcases hq with hq | hq; (simp [Value.ownBlock] at hq); omega)
      have OA : Out (fun q => q = m ∨ (Value.slice (some ⟨gw, 0, none⟩) D.words.length cw).ownBlock = some q) w V2 := ((Out.ofBelow (unhide B1)).trans (unhide U3) (fun q _ e => .inr (by rw [e]; rfl))).trans OU (fun q _ e => .inl e)
      have R := (unhide H).fenced X4 (ws := keepAll D.words D.flights) (by rw [keepAll_len]; exact O4) C4 (by omega) OA
      go_ret
      exact ⟨rfl, fun _ => R, OA.weak (fun q _ e => by rcases e with e | e; (exact .inl e); exact .inr (.inl e))⟩

set_option maxHeartbeats 2000000 in
theorem changed_fence (a1 a2 a3 : Option Addr) (c1 c2 c3 : Nat) (D D' : Dev) (code : Int) (w : World) (h : DevAt w a1 a2 a3 D) (n1 : D.words.length ≤ 1048576) (n2 : D.flights.length ≤ 1048576) (n3 : D.over.length ≤ 1048576) (m2 : D'.flights.length ≤ 10000000) (m3 : D'.over.length ≤ 10000000)
    (hch : Good D → ∀ w2, Below w.heap.size w w2 → ∀ m wv fo oo fm om, Mem w2 m wv fo oo fm om D → Calls Try.prog 57 #[.pointer (some ⟨m, 0, none⟩)] w2 fun e w3 => e = .returned (.int .i64 code) ∧ (code = 0 → Chg m wv fo oo fm om w2 w3 D') ∧ Out (MemB m wv fo oo fm om) w2 w3) :
    Calls Try.prog 40 #[.agg #[.slice a1 D.words.length c1, .slice a2 D.flights.length c2, .slice a3 D.over.length c3], .func (.func 57) #[] #[]] w fun e w' => ResIs e w.heap.size w' (chgCode D code) (chgDev D code D') ∧ Below w.heap.size w w' := by
  have H := hide h
  have HCH := hide hch
  clear h hch
  go_enter Try.func40, Try.ntmps40
  go_wp2_with fail
  obtain ⟨W, hW, z1, hb, hx, hy⟩ := boxes2 w [.slice a1 D.words.length c1, .slice a2 D.flights.length c2, .slice a3 D.over.length c3] [.int .i64 0, .slice none 0 0, .slice none 0 0, .slice none 0 0] 27 31
  rw [← hW]
  clear hW
  refine (openedDevice_any a1 a2 a3 c1 c2 c3 D _ ((unhide H).below (unhide hb)) n1 n2 n3).mono ?_
  rintro e w2 ⟨hor, hb2⟩
  have z2 : W.heap.size ≤ w2.heap.size := hb2.size
  have B2 := hide (below_step (unhide hb) hb2 (by omega))
  have Y2 := hide ((unhide hy).below hb2)
  have y0 := (unhide Y2).cell 0
  have y1 := (unhide Y2).cell 1
  have y2 := (unhide Y2).cell 2
  have y3 := (unhide Y2).cell 3
  have f0 := (unhide Y2).frozen 0
  have f1 := (unhide Y2).frozen 1
  have f2 := (unhide Y2).frozen 2
  have f3 := (unhide Y2).frozen 3
  simp at y0 y1 y2 y3
  clear hb2 hb hx hy H
  rcases hor with ⟨hg, m, wv, fo, oo, fm, om, rfl, hM, hL⟩ | ⟨hf, rfl⟩
  case inr =>
    have hfb : (devFault D != 0) = true := by simpa using hf
    have HC : Hid (chgCode D code = devFault D ∧ chgDev D code D' = none') := by simp [Hid, chgCode, chgDev, hf]
    clear hf
    go_wp2_with fail
    clear y0 y1 y2 y3 f0 f1 f2 f3
    generalize hU : (((w2.setCell _ _).setCell _ _).setCell _ _).setCell _ _ = U
    obtain ⟨XU, OU⟩ := store4' (unhide Y2) hU
    have t0 := (unhide XU).cell 0
    have t1 := (unhide XU).cell 1
    have t2 := (unhide XU).cell 2
    have t3 := (unhide XU).cell 3
    simp at t0 t1 t2 t3
    refine bodyPost_ret (v := .agg #[.int .i64 (devFault D), .slice none 0 0, .slice none 0 0, .slice none 0 0]) (by simp [results, Try.results40, go_sem, t0, t1, t2, t3]) rfl ⟨⟨_, _, _, by rw [(unhide HC).1], by rw [(unhide HC).2]; exact ownNone _ _⟩, (unhide OU).below (unhide B2) (Nat.le_refl _) (fun q hq e => by omega)⟩
  have HD0 := hide (devFault_good hg)
  have HG := hide hg
  have HM := hide hM
  have HL := hide hL
  clear hg hM hL
  go_wp2_with fail
  refine (unhide HCH (unhide HG) _ (unhide B2) m wv fo oo fm om (unhide HM)).mono ?_
  rintro e w3 ⟨rfl, hC, hO⟩
  have z3 : w2.heap.size ≤ w3.heap.size := hO.size
  have B3 := hide (hO.below (unhide B2) (Nat.le_refl _) (fun q hq e => by have := unhide HL q e; omega))
  have Y3 := hide ((unhide Y2).out hO (fun e => by have := unhide HL _ e; omega))
  clear hO y0 y1 y2 y3 f0 f1 f2 f3 Y2 B2
  have y0 := (unhide Y3).cell 0
  have y1 := (unhide Y3).cell 1
  have y2 := (unhide Y3).cell 2
  have y3 := (unhide Y3).cell 3
  have f0 := (unhide Y3).frozen 0
  have f1 := (unhide Y3).frozen 1
  have f2 := (unhide Y3).frozen 2
  have f3 := (unhide Y3).frozen 3
  simp at y0 y1 y2 y3
  by_cases hc : code = 0
  case neg =>
    have hcb : (code != 0) = true := by simpa using hc
    have HC : Hid (chgCode D code = code ∧ chgDev D code D' = none') := by simp [Hid, chgCode, chgDev, hc, unhide HD0]
    clear hc hC
    go_wp2_with fail
    clear y0 y1 y2 y3 f0 f1 f2 f3
    generalize hU : (((w3.setCell _ _).setCell _ _).setCell _ _).setCell _ _ = U
    obtain ⟨XU, OU⟩ := store4' (unhide Y3) hU
    have t0 := (unhide XU).cell 0
    have t1 := (unhide XU).cell 1
    have t2 := (unhide XU).cell 2
    have t3 := (unhide XU).cell 3
    simp at t0 t1 t2 t3
    refine bodyPost_ret (v := .agg #[.int .i64 code, .slice none 0 0, .slice none 0 0, .slice none 0 0]) (by simp [results, Try.results40, go_sem, t0, t1, t2, t3]) rfl ⟨⟨_, _, _, by rw [(unhide HC).1], by rw [(unhide HC).2]; exact ownNone _ _⟩, (unhide OU).below (unhide B3) (Nat.le_refl _) (fun q hq e => by omega)⟩
  obtain ⟨wv', fo', oo', fm', om', hM', hL'⟩ := hC hc
  have HC : Hid (chgCode D code = 0 ∧ chgDev D code D' = D') := by simp [Hid, chgCode, chgDev, hc, unhide HD0]
  rw [hc]
  clear hc hC
  have HM' := hide hM'
  have HL' : Hid (∀ q, MemB m wv' fo' oo' fm' om' q → W.heap.size ≤ q) := fun q hq => by
    rcases hL' q hq with h | h
    · exact unhide HL q h
    · omega
  clear hM' hL'
  go_wp2_with fail
  refine (device_any m wv' fo' oo' fm' om' D' W.heap.size _ (unhide HM') (unhide HL') (by omega) m2 m3).mono ?_
  rintro e w4 ⟨⟨s1, d1, s2, d2, s3, d3, rfl, hOD⟩, hb4⟩
  have z4 : w3.heap.size ≤ w4.heap.size := hb4.size
  have B4 := hide (below_step (unhide B3) hb4 (by omega))
  have Y4 := hide ((unhide Y3).below hb4)
  have OD := hide hOD
  clear hb4 hOD y0 y1 y2 y3 f0 f1 f2 f3 B3 Y3
  have y0 := (unhide Y4).cell 0
  have y1 := (unhide Y4).cell 1
  have y2 := (unhide Y4).cell 2
  have y3 := (unhide Y4).cell 3
  have f0 := (unhide Y4).frozen 0
  have f1 := (unhide Y4).frozen 1
  have f2 := (unhide Y4).frozen 2
  have f3 := (unhide Y4).frozen 3
  simp at y0 y1 y2 y3
  go_wp2_with fail
  clear y0 y1 y2 y3 f0 f1 f2 f3
  generalize hU : (((w4.setCell _ _).setCell _ _).setCell _ _).setCell _ _ = U
  obtain ⟨XU, OU⟩ := store4' (unhide Y4) hU
  have t0 := (unhide XU).cell 0
  have t1 := (unhide XU).cell 1
  have t2 := (unhide XU).cell 2
  have t3 := (unhide XU).cell 3
  simp at t0 t1 t2 t3
  have OD4 := (unhide OD).out (unhide OU) (fun q hq e => by have := ((unhide OD).lt hq).1; omega)
  have OD5 : OwnDev U w.heap.size (.slice s1 D'.words.length d1) (.slice s2 D'.flights.length d2) (.slice s3 D'.over.length d3) D' := ⟨own_base OD4.o1 (fun q hq => by have := (OD4.lt (.inl hq)).1; omega), own_base OD4.o2 (fun q hq => by have := (OD4.lt (.inr (.inl hq))).1; omega), own_base OD4.o3 (fun q hq => by have := (OD4.lt (.inr (.inr hq))).1; omega), OD4.n12, OD4.n13, OD4.n23⟩
  refine bodyPost_ret (v := .agg #[.int .i64 0, .slice s1 D'.words.length d1, .slice s2 D'.flights.length d2, .slice s3 D'.over.length d3]) (by simp [results, Try.results40, go_sem, t0, t1, t2, t3]) rfl ⟨⟨_, _, _, by rw [(unhide HC).1], by rw [(unhide HC).2]; exact OD5⟩, (unhide OU).below (unhide B4) (Nat.le_refl _) (fun q hq e => by omega)⟩

set_option maxHeartbeats 2000000 in
theorem implFenceDevice_any (a1 a2 a3 : Option Addr) (c1 c2 c3 : Nat) (D : Dev) (w : World) (h : DevAt w a1 a2 a3 D) (n1 : D.words.length ≤ 1048576) (n2 : D.flights.length ≤ 1048576) (n3 : D.over.length ≤ 1048576) :
    Calls Try.prog 20 #[.agg #[.slice a1 D.words.length c1, .slice a2 D.flights.length c2, .slice a3 D.over.length c3]] w fun e w' => ResIs e w.heap.size w' (chgCode D 0) (chgDev D 0 (fenceDev D)) ∧ Below w.heap.size w w' := by
  have H := hide h
  clear h
  go_enter Try.func20, Try.ntmps20
  go_wp2_with fail
  obtain ⟨W, hW, z1, hb, hx, hy⟩ := boxes2 w [.slice a1 D.words.length c1, .slice a2 D.flights.length c2, .slice a3 D.over.length c3] [.int .i64 0, .slice none 0 0, .slice none 0 0, .slice none 0 0] 27 31
  rw [← hW]
  clear hW
  refine (changed_fence a1 a2 a3 c1 c2 c3 D (fenceDev D) 0 _ ((unhide H).below (unhide hb)) n1 n2 n3 (by show [].length ≤ _; simp) (by show D.over.length ≤ _; omega) (fun hg w2 hb2 m wv fo oo fm om hM => fence_any m wv fo oo fm om D w2 hM hg (by omega))).mono ?_
  rintro e w2 ⟨⟨v1, v2, v3, rfl, hOD⟩, hb2⟩
  obtain ⟨s1, d1, s2, d2, s3, d3, e1, e2, e3, -⟩ := hOD.form
  subst e1 e2 e3
  have z2 : W.heap.size ≤ w2.heap.size := hb2.size
  have B2 := hide (below_step (unhide hb) hb2 (by omega))
  have Y2 := hide ((unhide hy).below hb2)
  have OD := hide hOD
  have y0 := (unhide Y2).cell 0
  have y1 := (unhide Y2).cell 1
  have y2 := (unhide Y2).cell 2
  have y3 := (unhide Y2).cell 3
  have f0 := (unhide Y2).frozen 0
  have f1 := (unhide Y2).frozen 1
  have f2 := (unhide Y2).frozen 2
  have f3 := (unhide Y2).frozen 3
  simp at y0 y1 y2 y3
  clear hb2 hOD hb hx hy
  go_wp2_with fail
  clear y0 y1 y2 y3 f0 f1 f2 f3
  generalize hU : (((w2.setCell _ _).setCell _ _).setCell _ _).setCell _ _ = U
  obtain ⟨XU, OU⟩ := store4' (unhide Y2) hU
  have t0 := (unhide XU).cell 0
  have t1 := (unhide XU).cell 1
  have t2 := (unhide XU).cell 2
  have t3 := (unhide XU).cell 3
  simp at t0 t1 t2 t3
  have OD4 := (unhide OD).out (unhide OU) (fun q hq e => by have := ((unhide OD).lt hq).1; omega)
  have OD5 := OD4.base (base' := w.heap.size) (by omega)
  refine bodyPost_ret (by simp [results, Try.results20, go_sem, t0, t1, t2, t3]) rfl ⟨⟨_, _, _, rfl, OD5⟩, (unhide OU).below (unhide B2) (Nat.le_refl _) (fun q hq e => by omega)⟩
end Go.Proofs.Ytgckkehlnahfmaa
