/-
  What impl.imageOf answers: a walk of lines that goes back by goto.
-/
import Derived.Test.YtiopofemelninaaGreatTakeWalk
import Derived.ScopeJumps
import Derived.WalkMore
namespace Go.Proofs.YtiopofemelninaaGreat
open Go.RowKit
set_option linter.unusedVariables false

theorem take_any (p base : Nat) (clock line : Int) (vv fv : Value) (L : List VerA) (F : List Int) (a : Option Addr) (c : Nat) (hc8 : 8 ≤ c) (l : List Int) (hl : l.length = 8) (w : World) (h : IM w base p clock vv fv L F) (hi : IntsAt w a l) (hL : L.length ≤ 1000) (hF : F.length ≤ 1000) (hc0 : 0 ≤ clock) (hc1 : clock ≤ 100000) :
    Calls Tryz.prog 51 #[.pointer (some ⟨p, 0, none⟩), .int .i64 line, .slice a 8 c] w fun e w' => e = .returned (.int .i64 (stepCode clock l)) ∧ (stepCode clock l = 0 → Took p base clock line L F l w') ∧ Out (Mine p base) w w' := by
  obtain ⟨x0, x1, x2, x3, x4, x5, x6, x7, rfl⟩ := eight hl
  cases hok : whOk x0
  · have hs : stepCode clock [x0, x1, x2, x3, x4, x5, x6, x7] = 1 := by simp [stepCode, hok]
    rw [hs]
    exact (take_form p base clock line vv fv L F a c x0 x1 x2 x3 x4 x5 x6 x7 w h hi hok).mono fun e w' h => ⟨h.1, fun e => (by cases e), Out.ofBelow h.2⟩
  · by_cases hk : x0 % 4 = 0
    · have hs : stepCode clock [x0, x1, x2, x3, x4, x5, x6, x7] = 0 := by simp [stepCode, hok, hk]
      rw [hs]
      exact (take_free p base clock line vv fv L F a c x0 x1 x2 x3 x4 x5 x6 x7 w h hi hok hk hF).mono fun e w' h => ⟨h.1, fun _ => h.2.1, h.2.2⟩
    · cases hsu : sureB clock x0
      · have hs : stepCode clock [x0, x1, x2, x3, x4, x5, x6, x7] = 0 := by simp [stepCode, hok, hk, hsu]
        rw [hs]
        exact (take_new p base clock line vv fv L F a c x0 x1 x2 x3 x4 x5 x6 x7 w h hi hok hk hsu hL hc0 hc1).mono fun e w' h => ⟨h.1, fun _ => h.2.1, h.2.2⟩
      · have hs : stepCode clock [x0, x1, x2, x3, x4, x5, x6, x7] = readCode [x0, x1, x2, x3, x4, x5, x6, x7] := by simp [stepCode, hok, hk, hsu]
        rw [hs]
        exact take_old p base clock line vv fv L F a c hc8 x0 x1 x2 x3 x4 x5 x6 x7 w h hi hok hk hsu hL hc0 hc1

theorem ints_line {w : World} {b o : Nat} {ws : List Int} (h : IntsAt w (some ⟨b, o, none⟩) ws) {k : Nat} (hk : 8 * k + 8 ≤ ws.length) : IntsAt w (some ⟨b, o + 8 * k, none⟩) ((ws.drop (8 * k)).take 8) ∧ ((ws.drop (8 * k)).take 8).length = 8 := by
  have hl : ((ws.drop (8 * k)).take 8).length = 8 := by rw [List.length_take, List.length_drop]; omega
  obtain ⟨b', o', e, hb, hc⟩ := h.at (k := 0) (by omega)
  cases e
  refine ⟨.inr ⟨b, o + 8 * k, rfl, hb, fun i hi => ?_⟩, hl⟩
  have := hc (8 * k + i) (by omega)
  rw [← Nat.add_assoc] at this
  rw [this]
  simp
theorem clockVal_bounds {ws : List Int} (h : clockCode ws = 0) : 2 ≤ clockVal ws ∧ clockVal ws ≤ 9999 ∧ sizeOk ws.length = true := by
  rcases clock_cases ws with ⟨h1, h2, _⟩ | ⟨h1, ⟨_, h2, _⟩ | ⟨_, ⟨_, h2, _⟩ | ⟨h3, _, h4⟩⟩⟩
  · rw [h2] at h; exact absurd h h1
  · rw [h2] at h; cases h
  · rw [h2] at h; cases h
  · have := inB_true.1 h3
    exact ⟨by omega, by omega, (wordsCode_ok h1).1⟩
def sliceLen : Value → Nat | .slice _ n _ => n | _ => 0
def imgClk (ws : List Int) : Int := if imgCode ws = 0 then clockVal ws else 0

theorem wp_scope_back {P : Program} {a : Act} {w : World} {Q : Exit → Act → World → Prop} {c rest : Code} (l : Nat) (J : Act → World → Prop) (μ : Act → World → Nat) (hf : findLabel c l = some (Code.skip.seq rest))
    (pass : ∀ a w, J a w → rest.wp P (Exit.jump l (fun a' w' => J a' w' ∧ μ a' w' < μ a w) Q) a w)
    (first : (∀ a w, J a w → rest.wp P (Exit.jump l J Q) a w) → c.wp P (Exit.jump l J Q) a w) : (Code.scope c).wp P Q a w := by
  refine wp_scope_jumps l J μ hf (first fun a w h => ?_) (fun a w h => wp_seq (wp_skip (pass a w h)))
  intro b k cs
  obtain ⟨e, a', w', hq, harr⟩ := pass a w h b k cs
  refine ⟨e, a', w', ?_, harr⟩
  cases e <;> first | exact hq | exact ⟨hq.1, hq.2.1⟩
def ImgIs (e : Ending) (base : Nat) (w' : World) (clk code : Int) (V : List Ver) (F : List Int) : Prop := ∃ vv fv L, e = .returned (.tuple #[.agg #[.int .i64 clk, vv, fv], .int .i64 code]) ∧ VOwn w' base vv L ∧ w'.ownsRow base 2 1 fv F.length (nums F) ∧ (∀ q, fv.ownBlock = some q → ¬ VB vv L q) ∧ L.map VerA.ver = V
set_option maxRecDepth 20000 in
set_option maxHeartbeats 4000000 in
theorem implImageOf_any (a : Option Addr) (c : Nat) (ws : List Int) (w : World) (h : IntsAt w a ws) (hcl : ws.length ≤ c) (hcm : c ≤ 10000000) (hn : ws.length ≤ 1048576) :
    Calls Tryz.prog 26 #[.slice a ws.length c] w fun e w' => ImgIs e w.heap.size w' (imgClk ws) (imgCode ws) (imgVers ws) (imgFree ws) ∧ Below w.heap.size w w' := by
  have H := hide h
  by_cases hc : clockCode ws = 0
  case neg =>
    have hcb : (clockCode ws != 0) = true := by simpa using hc
    have HC : Hid (imgClk ws = 0 ∧ imgCode ws = clockCode ws ∧ imgVers ws = [] ∧ imgFree ws = []) := by simp [Hid, imgClk, imgCode, imgVers, imgFree, hc]
    have HV : Hid (clockVal ws = 0) := by rw [Hid, clockVal, if_neg hc]
    clear hc h
    go_enter Tryz.func26, Tryz.ntmps26
    go_wp2_with fail
    obtain ⟨W, hW, z1, hb, hx⟩ := boxes1 w [.int .i64 0, .slice none 0 0, .slice none 0 0] 61
    rw [← hW]
    clear hW
    go_step3
    go_wp2_with fail
    refine (implClockOf_any a c ws _ ((unhide H).below (unhide hb)) hn).mono ?_
    rintro e w2 ⟨rfl, hb2⟩
    rw [unhide HV]
    generalize clockCode ws = cd at *
    obtain ⟨W2, hW2, z2, hb3, hx3⟩ := boxes1 w2 [.int .i64 cd, .int .i64 0] 37
    have z3 := hb2.size
    have B3 := hide (below_step (below_step (unhide hb) hb2 (by omega)) (unhide hb3) (by omega))
    have X3 := hide (((unhide hx).below hb2).below (unhide hb3))
    have y0 := (unhide X3).cell 0
    have y1 := (unhide X3).cell 1
    have y2 := (unhide X3).cell 2
    have f0 := (unhide X3).frozen 0
    have f1 := (unhide X3).frozen 1
    have f2 := (unhide X3).frozen 2
    have v0 := (unhide hx3).cell 0
    simp at y0 y1 y2 v0
    go_wp2_with fail
    rw [← hW2]
    clear hW2 hb2 hb3 hx3 hb hx
    go_region
    all_goals
      clear y0 y1 y2 f0 f1 f2 v0
      go_wp2_with fail
      rw [Exit.noGoto_ret]
      generalize hU : ((W2.setCell _ _).setCell _ _).setCell _ _ = U
      obtain ⟨XU, OU⟩ := store3' (unhide X3) hU
      have t0 : U.drew.cell? ⟨w.heap.size, 0, none⟩ = some (.int .i64 0) := (unhide XU).cell 0
      have t1 : U.drew.cell? ⟨w.heap.size, 1, none⟩ = some (.slice none 0 0) := (unhide XU).cell 1
      have t2 : U.drew.cell? ⟨w.heap.size, 2, none⟩ = some (.slice none 0 0) := (unhide XU).cell 2
      have BU : Below w.heap.size w U := (unhide OU).below (unhide B3) (Nat.le_refl _) (fun q hq e => by omega)
      refine bodyPost_ret (v := .tuple #[.agg #[.int .i64 0, .slice none 0 0, .slice none 0 0], .int .i64 cd]) (by simp [results, Tryz.results26, go_sem, t0, t1, t2]) rfl ⟨?_, ?_⟩
      · rw [(unhide HC).1, (unhide HC).2.1, (unhide HC).2.2.1, (unhide HC).2.2.2]
        exact ⟨_, _, [], rfl, vown_nil _ _, World.ownsRow_nil _ _ _ _, fun q hq => by simp [Value.ownBlock] at hq, rfl⟩
      · first | exact BU | exact BU.drew
  obtain ⟨hv1, hv2, hsz⟩ := clockVal_bounds hc
  have hsz' : 16 ≤ ws.length ∧ ws.length % 8 = 0 ∧ ws.length ≤ 328 := by simp [sizeOk] at hsz; omega
  obtain ⟨b, o, rfl, hb, -⟩ := h.at (k := 0) (by omega)
  have HC : Hid (clockCode ws = 0) := hc
  obtain ⟨T, hT⟩ : ∃ T, T = imgRun (clockVal ws) (ws.length / 8 - 1) 1 (ws.drop 8) := ⟨_, rfl⟩
  have HT : Hid (imgCode ws = T.1 ∧ imgVers ws = T.2.1 ∧ imgFree ws = T.2.2) := by rw [hT]; simp [Hid, imgCode, imgVers, imgFree, hc]
  have HS0 : Hid (Sofar T (imgRun (clockVal ws) (ws.length / 8 - 1) 1 (ws.drop (8 * 1))) [] []) := by rw [hT]; exact sofar_start _ imgRun_bad
  clear hT hc h hsz
  go_enter Tryz.func26, Tryz.ntmps26
  go_wp2_with fail
  obtain ⟨W, hW, z1, hbW, hx⟩ := boxes1 w [.int .i64 0, .slice none 0 0, .slice none 0 0] 61
  rw [← hW]
  clear hW
  refine wp_scope_back 0 (fun a' w' => ∃ (k rn rc qb p base : Nat) (vv fv : Value) (L : List VerA) (F : List Int) (u8 u9 u10 u11 u12 u13 u14 u15 u16 u17 u18 u19 u20 u21 u22 u23 u24 u25 u26 u27 u28 u29 u30 u31 u32 u33 u34 u35 u36 u37 : Value), a' = { tmps := #[.slice (some ⟨b, o, none⟩) ws.length c, undef, .pointer (some ⟨w.heap.size, 0, none⟩), .int .i64 0, .pointer (some ⟨qb, 0, none⟩), .pointer (some ⟨p, 0, none⟩), .int .i64 (k : Int), .slice (some ⟨b, o + 8 * k, none⟩) rn rc, u8, u9, u10, u11, u12, u13, u14, u15, u16, u17, u18, u19, u20, u21, u22, u23, u24, u25, u26, u27, u28, u29, u30, u31, u32, u33, u34, u35, u36, u37], defers := [] } ∧ 1 ≤ k ∧ k ≤ 100 ∧ 8 ≤ rn ∧ rn ≤ rc ∧ rc ≤ 10000000 ∧ Hid (rn + 8 * k = ws.length ∧ rc + 8 * k = c) ∧ w.heap.size < p ∧ L.length ≤ k ∧ F.length ≤ k ∧ Hid (IM w' base p (clockVal ws) vv fv L F) ∧ Hid (Sofar T (imgRun (clockVal ws) (ws.length / 8 - k) k (ws.drop (8 * k))) (L.map VerA.ver) F) ∧ Hid (Below w.heap.size w w') ∧ Hid (Box w' w.heap.size [.int .i64 0, .slice none 0 0, .slice none 0 0] 61)) (fun a' _ => sliceLen (a'.tmps.getD 7 undef)) rfl ?_ ?_
  · rintro a' w' ⟨k, rn, rc, qb, p, base, vv, fv, L, F, u8, u9, u10, u11, u12, u13, u14, u15, u16, u17, u18, u19, u20, u21, u22, u23, u24, u25, u26, u27, u28, u29, u30, u31, u32, u33, u34, u35, u36, u37, rfl, hk1, hk2, hr8, hrc, hrm, HE, hp, hL, hF, HM, HS, HB, HX⟩
    have hkl : 8 * k + 8 ≤ ws.length := by have := (unhide HE).1; omega
    obtain ⟨hil, hll⟩ := ints_line ((unhide H).below (unhide HB)) hkl
    have HIL := hide hil
    have HLL := hide hll
    have hm : ws.length / 8 - k = (ws.length / 8 - k - 1) + 1 := by omega
    have HMM := hide hm
    clear hil hll hm
    obtain ⟨va, vc, ev⟩ := (unhide HM).vers.form
    obtain ⟨fa, fc, ef, -⟩ := rowAt_own (unhide HM).free
    subst ev ef
    have hbz := (unhide HM).pb
    have hbz2 := (unhide HM).bz
    have hwz := (unhide HB).size
    go_wp2_with fail
    refine (take_any p base (clockVal ws) k _ _ L F _ rc (by omega) ((ws.drop (8 * k)).take 8) (unhide HLL) _ (unhide HM) (unhide HIL) (by omega) (by omega) (by omega) (by omega)).mono ?_
    rintro e w2 ⟨rfl, hTk, hO⟩
    have z2 := hO.size
    have B2 := hide (hO.below (unhide HB) (Nat.le_refl _) (fun q hq e => by rcases e with e | e <;> omega))
    have X2 := hide ((unhide HX).out hO (fun e => by rcases e with e | e <;> omega))
    clear hO HB HX HIL HLL
    by_cases hs : stepCode (clockVal ws) ((ws.drop (8 * k)).take 8) = 0
    · obtain ⟨vv2, fv2, L2, hM2, hV2⟩ := hTk hs
      have S2 : Hid (Sofar T (imgRun (clockVal ws) (ws.length / 8 - (k + 1)) (k + 1 : Nat) (ws.drop (8 * (k + 1)))) (L2.map VerA.ver) (F ++ stepFree k ((ws.drop (8 * k)).take 8))) := by
        have := unhide HS
        rw [unhide HMM] at this
        have h2 := sofar_step this hs
        rw [← hV2, List.drop_drop] at h2
        rw [Hid, show ws.length / 8 - (k + 1) = ws.length / 8 - k - 1 by omega, show 8 * (k + 1) = 8 * k + 8 by omega]
        simpa using h2
      have M2 := hide hM2
      have hL2 : L2.length ≤ k + 1 := by
        have h1 : (L2.map VerA.ver).length = _ := congrArg List.length hV2
        have h2 := stepVers_len (clockVal ws) k ((ws.drop (8 * k)).take 8)
        simp only [List.length_map, List.length_append] at h1
        omega
      have hF2 : (F ++ stepFree k ((ws.drop (8 * k)).take 8)).length ≤ k + 1 := by
        have h2 := stepFree_len (k : Int) ((ws.drop (8 * k)).take 8)
        rw [List.length_append]; omega
      rw [hs]
      generalize hFF : F ++ stepFree (k : Int) ((ws.drop (8 * k)).take 8) = F2 at *
      clear hFF hV2 hM2 hTk hs HM HS hkl HMM
      obtain ⟨va2, vc2, ev⟩ := (unhide M2).vers.form
      obtain ⟨fa2, fc2, ef, -⟩ := rowAt_own (unhide M2).free
      subst ev ef
      have r8 : (8 : Int) ≤ rn := by omega
      go_wp2_with fail
      by_cases hmore : 8 < rn
      · have r9 : (8 : Int) < rn := by omega
        have c9 : (8 : Int) < rc := by omega
        have c9n : 8 < rc := by omega
        have r8n : 0 < rn - 8 := by omega
        go_quiet (fail)
        go_wp2_with fail
        go_step3
        have hE := unhide HE
        have e1 : o + 8 * k + 8 = o + 8 * (k + 1) := by omega
        rw [e1]
        refine ⟨rfl, ⟨k + 1, rn - 8, rc - 8, qb, p, base, _, _, L2, F2, _, _, _, _, _, _, _, _, _, _, _, _, _, _, _, _, _, _, _, _, _, _, _, _, _, _, _, _, _, _, rfl, by omega, by omega, by omega, by omega, by omega, ⟨by omega, by omega⟩, hp, hL2, hF2, (unhide M2).below (below_drewN (Below.refl _ w2) _), S2, below_drewN (unhide B2) _, (unhide X2).below (below_drewN (Below.refl _ w2) _)⟩, ?_⟩
        simp [sliceLen]; omega
      · have hrn : rn = 8 := by omega
        subst hrn
        by_cases hcap : rc = 8
        · · subst hcap
            have m0 := (unhide M2).box.cell 0
            have m1 := (unhide M2).box.cell 1
            have m2 := (unhide M2).box.cell 2
            have y0 := (unhide X2).cell 0
            have y1 := (unhide X2).cell 1
            have y2 := (unhide X2).cell 2
            have f0 := (unhide X2).frozen 0
            have f1 := (unhide X2).frozen 1
            have f2 := (unhide X2).frozen 2
            simp at m0 m1 m2 y0 y1 y2
            go_quiet (fail)
            go_wp2_with fail
            clear m0 m1 m2 y0 y1 y2 f0 f1 f2
            generalize hdn : World.drewN w2 _ = wd
            have BD : Below w2.heap.size w2 wd := hdn ▸ below_drewN (Below.refl _ _) _
            clear hdn
            generalize hU : ((wd.setCell _ _).setCell _ _).setCell _ _ = U
            obtain ⟨XU, OU⟩ := store3' ((unhide X2).below BD) hU
            have t0 := (unhide XU).cell 0
            have t1 := (unhide XU).cell 1
            have t2 := (unhide XU).cell 2
            simp at t0 t1 t2
            simp only [Exit.jump]
            have hR := sofar_end (show Sofar T (imgRun (clockVal ws) 0 (k + 1 : Nat) (ws.drop (8 * (k + 1)))) (L2.map VerA.ver) F2 by have := unhide S2; rw [show ws.length / 8 - (k + 1) = 0 by have := (unhide HE).1; omega] at this; exact this)
            have M3 := (unhide M2).below BD
            have hr : ∀ q, IB p _ _ L2 q → q ≠ w.heap.size := fun q hq e => by have := (M3.lt hq).1; omega
            refine bodyPost_ret (v := .tuple #[.agg #[.int .i64 (clockVal ws), .slice va2 L2.length vc2, .slice fa2 F2.length fc2], .int .i64 0]) (by simp [results, Tryz.results26, go_sem, t0, t1, t2]) rfl ⟨?_, ?_⟩
            · have hcq : imgCode ws = 0 := by rw [(unhide HT).1, hR.1]
              have hck : imgClk ws = clockVal ws := by rw [imgClk, if_pos hcq]
              rw [hcq, hck, (unhide HT).2.1, (unhide HT).2.2, hR.2.1, hR.2.2]
              refine ⟨_, _, L2, rfl, ((M3.vers.out (unhide OU) (fun q hq e => hr q (.inr (.inl hq)) e)).base (by omega)), own_base ((unhide OU).own M3.free (fun q hq e => hr q (.inr (.inr hq)) e)) (fun q hq => by have := (M3.free.lt q hq).1; omega), M3.sep, rfl⟩
            · exact (unhide OU).below (below_step (unhide B2) BD (by omega)) (Nat.le_refl _) (fun q hq e => by omega)
        · · have c9 : (8 : Int) < rc := by omega
            have c9n : 8 < rc := by omega
            have m0 := (unhide M2).box.cell 0
            have m1 := (unhide M2).box.cell 1
            have m2 := (unhide M2).box.cell 2
            have y0 := (unhide X2).cell 0
            have y1 := (unhide X2).cell 1
            have y2 := (unhide X2).cell 2
            have f0 := (unhide X2).frozen 0
            have f1 := (unhide X2).frozen 1
            have f2 := (unhide X2).frozen 2
            simp at m0 m1 m2 y0 y1 y2
            go_quiet (fail)
            go_wp2_with fail
            clear m0 m1 m2 y0 y1 y2 f0 f1 f2
            generalize hdn : World.drewN w2 _ = wd
            have BD : Below w2.heap.size w2 wd := hdn ▸ below_drewN (Below.refl _ _) _
            clear hdn
            generalize hU : ((wd.setCell _ _).setCell _ _).setCell _ _ = U
            obtain ⟨XU, OU⟩ := store3' ((unhide X2).below BD) hU
            have t0 := (unhide XU).cell 0
            have t1 := (unhide XU).cell 1
            have t2 := (unhide XU).cell 2
            simp at t0 t1 t2
            simp only [Exit.jump]
            have hR := sofar_end (show Sofar T (imgRun (clockVal ws) 0 (k + 1 : Nat) (ws.drop (8 * (k + 1)))) (L2.map VerA.ver) F2 by have := unhide S2; rw [show ws.length / 8 - (k + 1) = 0 by have := (unhide HE).1; omega] at this; exact this)
            have M3 := (unhide M2).below BD
            have hr : ∀ q, IB p _ _ L2 q → q ≠ w.heap.size := fun q hq e => by have := (M3.lt hq).1; omega
            refine bodyPost_ret (v := .tuple #[.agg #[.int .i64 (clockVal ws), .slice va2 L2.length vc2, .slice fa2 F2.length fc2], .int .i64 0]) (by simp [results, Tryz.results26, go_sem, t0, t1, t2]) rfl ⟨?_, ?_⟩
            · have hcq : imgCode ws = 0 := by rw [(unhide HT).1, hR.1]
              have hck : imgClk ws = clockVal ws := by rw [imgClk, if_pos hcq]
              rw [hcq, hck, (unhide HT).2.1, (unhide HT).2.2, hR.2.1, hR.2.2]
              refine ⟨_, _, L2, rfl, ((M3.vers.out (unhide OU) (fun q hq e => hr q (.inr (.inl hq)) e)).base (by omega)), own_base ((unhide OU).own M3.free (fun q hq e => hr q (.inr (.inr hq)) e)) (fun q hq => by have := (M3.free.lt q hq).1; omega), M3.sep, rfl⟩
            · exact (unhide OU).below (below_step (unhide B2) BD (by omega)) (Nat.le_refl _) (fun q hq e => by omega)
    · have hsb : (stepCode (clockVal ws) ((ws.drop (8 * k)).take 8) != 0) = true := by simpa using hs
      have hst := unhide HS
      rw [unhide HMM] at hst
      have hst2 := sofar_stop hst hs
      have HF2 := hide hst2
      have HZ := hide hs
      clear hst hst2 hTk hs HMM
      generalize hq : stepCode (clockVal ws) ((ws.drop (8 * k)).take 8) = q at *
      clear hq
      have y0 := (unhide X2).cell 0
      have y1 := (unhide X2).cell 1
      have y2 := (unhide X2).cell 2
      have f0 := (unhide X2).frozen 0
      have f1 := (unhide X2).frozen 1
      have f2 := (unhide X2).frozen 2
      simp at y0 y1 y2
      go_wp2_with fail
      clear y0 y1 y2 f0 f1 f2
      generalize hU : ((w2.setCell _ _).setCell _ _).setCell _ _ = U
      obtain ⟨XU, OU⟩ := store3' (unhide X2) hU
      have t0 := (unhide XU).cell 0
      have t1 := (unhide XU).cell 1
      have t2 := (unhide XU).cell 2
      simp at t0 t1 t2
      simp only [Exit.jump]
      refine bodyPost_ret (v := .tuple #[.agg #[.int .i64 0, .slice none 0 0, .slice none 0 0], .int .i64 q]) (by simp [results, Tryz.results26, go_sem, t0, t1, t2]) rfl ⟨?_, ?_⟩
      · have hcq : imgCode ws = q := by rw [(unhide HT).1, (unhide HF2).1]
        have hck : imgClk ws = 0 := by rw [imgClk, if_neg (by rw [hcq]; exact unhide HZ)]
        rw [hcq, hck, (unhide HT).2.1, (unhide HT).2.2, (unhide HF2).2.1, (unhide HF2).2.2]
        exact ⟨_, _, [], rfl, vown_nil _ _, World.ownsRow_nil _ _ _ _, fun q hq => by simp [Value.ownBlock] at hq, rfl⟩
      · exact (unhide OU).below (unhide B2) (Nat.le_refl _) (fun q hq e => by omega)
  · intro hpass
    have HP := hide hpass
    clear hpass
    go_wp2_with fail
    refine (implClockOf_any _ c ws _ ((unhide H).below (unhide hbW)) hn).mono ?_
    rintro e w2 ⟨rfl, hb2⟩
    rw [unhide HC]
    have z2 := hb2.size
    obtain ⟨W2, hW2, z3, hb3, hx3, hy3⟩ := boxes2 w2 [.int .i64 0, .int .i64 (clockVal ws)] [.int .i64 (clockVal ws), .slice none 0 0, .slice none 0 0] 37 61
    have B3 := hide (below_step (below_step (unhide hbW) hb2 (by omega)) (unhide hb3) (by omega))
    have X3 := hide (((unhide hx).below hb2).below (unhide hb3))
    clear hb2 hb3 hx3
    go_wp2_with fail
    rw [← hW2]
    clear hW2
    have l8 : (8 : Int) ≤ ws.length := by omega
    have c8 : (8 : Int) < c := by omega
    have c8n : 8 < c := by omega
    go_quiet (fail)
    go_wp2_with fail
    go_step3
    rename_i HKK
    refine HKK _ _ (unhide HP _ _ ⟨1, ws.length - 8, c - 8, w2.heap.size, w2.heap.size + 1, W2.heap.size, .slice none 0 0, .slice none 0 0, [], [], _, _, _, _, _, _, _, _, _, _, _, _, _, _, _, _, _, _, _, _, _, _, _, _, _, _, _, _, _, _, rfl, by omega, by omega, by omega, by omega, by omega, ⟨by omega, by omega⟩, by omega, by simp, by simp, ?_, HS0, below_drewN (unhide B3) _, (unhide X3).below (below_drewN (Below.refl _ W2) _)⟩)
    exact (show IM W2 W2.heap.size (w2.heap.size + 1) (clockVal ws) (.slice none 0 0) (.slice none 0 0) [] [] from ⟨unhide hy3, vown_nil _ _, World.ownsRow_nil _ _ _ _, fun q hq => by simp [Value.ownBlock] at hq, by omega, Nat.le_refl _⟩).below (below_drewN (Below.refl _ W2) _)
end Go.Proofs.YtiopofemelninaaGreat
