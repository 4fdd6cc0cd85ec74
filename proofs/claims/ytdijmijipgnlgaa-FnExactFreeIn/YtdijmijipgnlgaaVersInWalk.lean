/-
  What spec.VersionsIn and impl.VersionsIn answer.
-/
import Derived.Test.YtdijmijipgnlgaaSVersWalk
namespace Go.Proofs.Ytdijmijipgnlgaa
open Go.RowKit
set_option linter.unusedVariables false

def VRes (e : Ending) (base : Nat) (w' : World) (code : Int) (V : List Ver) : Prop := ∃ v L, e = .returned (.agg #[.int .i64 code, v]) ∧ VOwn w' base v L ∧ L.map VerA.ver = V
theorem clock_words {ws : List Int} (h : clockCode ws = 0) : allWords ws = true := by
  rcases clock_cases ws with ⟨h1, h2, _⟩ | ⟨h1, _⟩
  · rw [h2] at h; exact absurd h h1
  · exact (wordsCode_ok h1).2
set_option maxRecDepth 20000 in
set_option maxHeartbeats 2000000 in
theorem specVersionsIn_any (a : Option Addr) (c : Nat) (ws : List Int) (w : World) (h : IntsAt w a ws) (hcl : ws.length ≤ c) (hcm : c ≤ 10000000) (hn : ws.length ≤ 1048576) :
    Calls Try.prog 72 #[.slice a ws.length c] w fun e w' => VRes e w.heap.size w' (imgCode ws) (imgVers ws) ∧ Below w.heap.size w w' := by
  have H := hide h
  clear h
  go_enter Try.func72, Try.ntmps72
  go_wp2_with fail
  obtain ⟨W, hW, z1, hb, hx⟩ := boxes1 w [.int .i64 0, .slice none 0 0] 99
  rw [← hW]
  clear hW
  refine (specClockOf_any a c ws _ ((unhide H).below (unhide hb)) hn).mono ?_
  rintro e w2 ⟨rfl, hb2⟩
  have z2 := hb2.size
  obtain ⟨W2, hW2, z3, hb3, hx3⟩ := boxes1 w2 [.int .i64 (clockCode ws), .int .i64 (clockVal ws)] 36
  have B3 := hide (below_step (below_step (unhide hb) hb2 (by omega)) (unhide hb3) (by omega))
  have X3 := hide (((unhide hx).below hb2).below (unhide hb3))
  have v0 := (unhide hx3).cell 0
  have v1 := (unhide hx3).cell 1
  have y0 := (unhide X3).cell 0
  have y1 := (unhide X3).cell 1
  have f0 := (unhide X3).frozen 0
  have f1 := (unhide X3).frozen 1
  simp at v0 v1 y0 y1
  by_cases hc : clockCode ws = 0
  case neg =>
    have hcb : (clockCode ws != 0) = true := by simpa using hc
    have HC : Hid (imgCode ws = clockCode ws ∧ imgVers ws = []) := by simp [Hid, imgCode, imgVers, hc]
    clear hc hb2 hb3 hx3 hb hx
    generalize clockCode ws = cd at *
    rw [hW2] at y0 y1 f0 f1 v0
    go_wp2_with fail
    rw [← hW2]
    clear y0 y1 f0 f1 v0 v1 hW2
    generalize hU : (W2.setCell _ _).setCell _ _ = U
    obtain ⟨XU, OU⟩ := store2' (unhide X3) hU
    have t0 := (unhide XU).cell 0
    have t1 := (unhide XU).cell 1
    simp at t0 t1
    refine bodyPost_ret (v := .agg #[.int .i64 cd, .slice none 0 0]) (by simp [results, Try.results72, go_sem, t0, t1]) rfl ⟨?_, ?_⟩
    · rw [(unhide HC).1, (unhide HC).2]
      exact ⟨_, [], rfl, vown_nil _ _, rfl⟩
    · exact (unhide OU).below (unhide B3) (Nat.le_refl _) (fun q hq e => by omega)
  obtain ⟨hv1, hv2, hsz⟩ := clockVal_bounds hc
  have hal := clock_words hc
  have HC : Hid (imgCode ws = (imgRun (clockVal ws) (ws.length / 8 - 1) 1 (ws.drop 8)).1 ∧ imgVers ws = (imgRun (clockVal ws) (ws.length / 8 - 1) 1 (ws.drop 8)).2.1) := by simp [Hid, imgCode, imgVers, hc]
  rw [hc] at v0 hW2 ⊢
  have I3 := hide ((unhide H).below (unhide B3))
  clear hc hb2 hb3 hx3 hb hx
  rw [hW2] at v0 v1
  go_wp2_with fail
  rw [← hW2]
  clear hW2 v0 v1 y0 y1 f0 f1
  refine (l4Versions_any a c ws (clockVal ws) _ (unhide I3) hcl hcm hsz hal hv1 hv2).mono ?_
  rintro e w4 ⟨⟨v, L, rfl, hV, hM⟩, hb4⟩
  obtain ⟨va, vc, ev⟩ := hV.form
  subst ev
  generalize (imgRun (clockVal ws) (ws.length / 8 - 1) 1 (ws.drop 8)).1 = cd at *
  generalize (imgRun (clockVal ws) (ws.length / 8 - 1) 1 (ws.drop 8)).2.1 = V at *
  have B4 := hide (below_step (unhide B3) hb4 (by omega))
  have X4 := hide ((unhide X3).below hb4)
  have V4 := hide hV
  have z4 := hb4.size
  have y0 := (unhide X4).cell 0
  have y1 := (unhide X4).cell 1
  have f0 := (unhide X4).frozen 0
  have f1 := (unhide X4).frozen 1
  simp at y0 y1
  clear hb4 hV X3 B3 I3
  go_wp2_with fail
  clear y0 y1 f0 f1
  generalize hU : (w4.setCell _ _).setCell _ _ = U
  obtain ⟨XU, OU⟩ := store2' (unhide X4) hU
  have t0 := (unhide XU).cell 0
  have t1 := (unhide XU).cell 1
  simp at t0 t1
  refine bodyPost_ret (v := .agg #[.int .i64 cd, .slice va L.length vc]) (by simp [results, Try.results72, go_sem, t0, t1]) rfl ⟨?_, ?_⟩
  · rw [(unhide HC).1, (unhide HC).2]
    exact ⟨_, L, rfl, ((unhide V4).out (unhide OU) (fun q hq e => by have := ((unhide V4).lt hq).1; omega)).base (by omega), hM⟩
  · exact (unhide OU).below (unhide B4) (Nat.le_refl _) (fun q hq e => by omega)
set_option maxRecDepth 20000 in
set_option maxHeartbeats 2000000 in
theorem implVersionsIn_any (a : Option Addr) (c : Nat) (ws : List Int) (w : World) (h : IntsAt w a ws) (hcl : ws.length ≤ c) (hcm : c ≤ 10000000) (hn : ws.length ≤ 1048576) :
    Calls Try.prog 73 #[.slice a ws.length c] w fun e w' => VRes e w.heap.size w' (imgCode ws) (imgVers ws) ∧ Below w.heap.size w w' := by
  have H := hide h
  clear h
  have HBAD : Hid (imgCode ws ≠ 0 → imgVers ws = []) := fun h => by
    unfold imgCode at h
    unfold imgVers
    split
    · rename_i hc; rw [if_pos hc] at h; exact (imgRun_bad h).1
    · rfl
  go_enter Try.func73, Try.ntmps73
  go_wp2_with fail
  obtain ⟨W, hW, z1, hb, hx⟩ := boxes1 w [.int .i64 0, .slice none 0 0] 99
  rw [← hW]
  clear hW
  refine (implImageOf_any a c ws _ ((unhide H).below (unhide hb)) hcl hcm hn).mono ?_
  rintro e w2 ⟨⟨vv, fv, L, rfl, hV, hF, hsep, hM⟩, hb2⟩
  have z2 := hb2.size
  obtain ⟨va, vc, ev⟩ := hV.form
  obtain ⟨fa, fc, ef, -⟩ := rowAt_own hF
  subst ev ef
  generalize hFF : imgFree ws = FF at *
  generalize hCC : imgClk ws = CC at *
  obtain ⟨W2, hW2, z3, hb3, hx3⟩ := boxes1 w2 [.int .i64 CC, .slice va L.length vc, .slice fa FF.length fc] 180
  have B3 := hide (below_step (below_step (unhide hb) hb2 (by omega)) (unhide hb3) (by omega))
  have X3 := hide (((unhide hx).below hb2).below (unhide hb3))
  have V3 := hide (hV.below (unhide hb3))
  have v1 := (unhide hx3).cell 1
  have y0 := (unhide X3).cell 0
  have y1 := (unhide X3).cell 1
  have f0 := (unhide X3).frozen 0
  have f1 := (unhide X3).frozen 1
  simp at v1 y0 y1
  have HM := hide hM
  rw [hW2] at v1 y0 y1 f0 f1
  clear hb2 hb3 hx3 hb hx hF hV hsep hFF hCC hM
  by_cases hc : imgCode ws = 0
  case neg =>
    have hcb : (imgCode ws != 0) = true := by simpa using hc
    have HVN := hide (unhide HBAD hc)
    generalize hcd : imgCode ws = cd at *
    have HCD := hide hcd
    clear hc hcd
    go_wp2_with fail
    rw [← hW2]
    clear y0 y1 f0 f1 v1 hW2
    generalize hU : (W2.setCell _ _).setCell _ _ = U
    obtain ⟨XU, OU⟩ := store2' (unhide X3) hU
    have t0 := (unhide XU).cell 0
    have t1 := (unhide XU).cell 1
    simp at t0 t1
    refine bodyPost_ret (v := .agg #[.int .i64 cd, .slice none 0 0]) (by simp [results, Try.results73, go_sem, t0, t1]) rfl ⟨?_, ?_⟩
    · rw [unhide HCD, unhide HVN]
      exact ⟨_, [], rfl, vown_nil _ _, rfl⟩
    · exact (unhide OU).below (unhide B3) (Nat.le_refl _) (fun q hq e => by omega)
  have HCD := hide hc
  rw [hc]
  clear hc
  go_wp2_with fail
  rw [← hW2]
  clear y0 y1 f0 f1 v1 hW2
  generalize hU : (W2.setCell _ _).setCell _ _ = U
  obtain ⟨XU, OU⟩ := store2' (unhide X3) hU
  have t0 := (unhide XU).cell 0
  have t1 := (unhide XU).cell 1
  simp at t0 t1
  refine bodyPost_ret (v := .agg #[.int .i64 0, .slice va L.length vc]) (by simp [results, Try.results73, go_sem, t0, t1]) rfl ⟨?_, ?_⟩
  · rw [unhide HCD]
    exact ⟨_, L, rfl, ((unhide V3).out (unhide OU) (fun q hq e => by have := ((unhide V3).lt hq).1; omega)).base (by omega), unhide HM⟩
  · exact (unhide OU).below (unhide B3) (Nat.le_refl _) (fun q hq e => by omega)
end Go.Proofs.Ytdijmijipgnlgaa
