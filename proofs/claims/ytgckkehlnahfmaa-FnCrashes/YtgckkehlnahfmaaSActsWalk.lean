/-
  What spec.l2Act does, and what spec.DoActs answers.
-/
import Derived.Test.YtgckkehlnahfmaaDoMath
import Derived.Test.YtgckkehlnahfmaaSFlushWalk
import Derived.Test.YtgckkehlnahfmaaSEvictWalk
import Derived.BigRegion
namespace Go.Proofs.Ytgckkehlnahfmaa
open Go.RowKit
set_option linter.unusedVariables false

set_option maxHeartbeats 3000000 in
theorem l2Act_any (d : Nat) (t : TypeId) (base : Nat) (v1 v2 v3 : Value) (D : Dev) (pb po : Nat) (k a v : Int) (w : World) (h : SMem w base d t v1 v2 v3 D) (hbase : base ≤ w.heap.size) (hg : Good D) (h0 : w.cell? ⟨pb, po, none⟩ = some (.int .i64 k)) (h1 : w.cell? ⟨pb, po + 1, none⟩ = some (.int .i64 a)) (h2 : w.cell? ⟨pb, po + 2, none⟩ = some (.int .i64 v)) (hn : cellsN D ≤ 1100000) :
    Calls Try.prog 72 #[.pointer (some ⟨d, 0, none⟩), .pointer (some ⟨pb, po, none⟩)] w fun e w' => e = .returned (.int .i64 (actCode D (k, a, v))) ∧ (actCode D (k, a, v) = 0 → ∃ u1 u2 u3, SMem w' base d t u1 u2 u3 (actDev D (k, a, v))) ∧ Out (fun q => q = d ∨ SB v1 v2 v3 D q) w w' ∧ (actCode D (k, a, v) ≠ 0 → w' = w) := by
  have n2 : D.flights.length ≤ 1100000 := by unfold cellsN at hn; omega
  have n3 : D.over.length ≤ 1100000 := by unfold cellsN at hn; omega
  have hsz := hg.small
  obtain ⟨s1, d1, s2, d2, s3, d3, e1, e2, e3, -⟩ := h.dev.form
  subst e1 e2 e3
  have c0 := h.box.cell 0
  simp at c0
  have HG := hide hg
  have H := hide h
  clear h hg hn
  cases k1 : (k == 1)
  · have e1 : k ≠ 1 := by simpa using k1
    cases k2 : (k == 2)
    · have e2 : k ≠ 2 := by simpa using k2
      cases k3 : (k == 3)
      · have e3 : k ≠ 3 := by simpa using k3
        have HC : Hid (actCode D (k, a, v) = 1) := by simp only [Hid, actCode]; rw [if_neg e1, if_neg (fun h => e2 h.1), if_neg (fun h => e3 h.1)]
        clear e1 e2 e3
        go_enter Try.func72, Try.ntmps72
        go_wp2_with fail
        go_ret
        exact ⟨ret_int (unhide HC).symm, (fun e => by rw [unhide HC] at e; cases e), Out.refl _ _, fun _ => rfl⟩
      · have e3 : k = 3 := by simpa using k3
        subst e3
        cases h3 : (a != 0 || v != 0)
        · have e4 : a = 0 ∧ v = 0 := by simpa using h3
          obtain ⟨rfl, rfl⟩ := e4
          have HC : Hid (actCode D (3, 0, 0) = 0 ∧ actDev D (3, 0, 0) = fenceDev D) := ⟨rfl, rfl⟩
          clear h3 k1 k2 k3 e1 e2
          go_enter Try.func72, Try.ntmps72
          go_wp2_with fail
          refine (l2Fence_any d t base _ _ _ D _ (unhide H) (unhide HG) (by omega)).mono ?_
          rintro e w2 ⟨rfl, u1, u2, u3, hM, hO⟩
          have M2 := hide hM
          have O2 := hide hO
          clear hM hO h0 h1 h2 c0
          go_wp2_with fail
          go_ret
          exact ⟨ret_int (unhide HC).1.symm, fun _ => ⟨u1, u2, u3, by rw [(unhide HC).2]; exact unhide M2⟩, unhide O2, fun h => absurd (unhide HC).1 h⟩
        · have e4 : ¬ (a = 0 ∧ v = 0) := by intro h; rw [h.1, h.2] at h3; cases h3
          have HC : Hid (actCode D (3, a, v) = 1) := by simp only [Hid, actCode]; rw [if_neg (by decide), if_neg (fun h => by cases h.1), if_neg (fun h => e4 h.2)]
          cases h5 : (a != 0)
          · have h6 : (v != 0) = true := by rw [h5] at h3; simpa using h3
            clear h3 e4 k1 k2 k3 e1 e2
            go_enter Try.func72, Try.ntmps72
            go_wp2_with fail
            go_ret
            exact ⟨ret_int (unhide HC).symm, (fun e => by rw [unhide HC] at e; cases e), Out.refl _ _, fun _ => rfl⟩
          · clear h3 e4 k1 k2 k3 e1 e2
            go_enter Try.func72, Try.ntmps72
            go_wp2_with fail
            go_ret
            exact ⟨ret_int (unhide HC).symm, (fun e => by rw [unhide HC] at e; cases e), Out.refl _ _, fun _ => rfl⟩
    · have e2 : k = 2 := by simpa using k2
      subst e2
      cases h3 : (v != 0)
      · have e4 : v = 0 := by simpa using h3
        subst e4
        have HC : Hid (actCode D (2, a, 0) = flushCode D a ∧ actDev D (2, a, 0) = flushDev D a) := ⟨rfl, rfl⟩
        cases h5 : sizeOkL D.words.length a
        · have HF : Hid (flushCode D a = 3) := by simp [Hid, flushCode, h5]
          clear h3 k1 k2 e1
          go_enter Try.func72, Try.ntmps72
          go_wp2_with fail
          refine (l2Line_any d _ _ _ a _ c0 (by omega)).mono ?_
          rintro e w0 ⟨rfl, rfl⟩
          rw [h5]
          clear h5
          go_wp2_with fail
          go_ret
          exact ⟨ret_int (by rw [(unhide HC).1, unhide HF]), (fun e => by rw [(unhide HC).1, unhide HF] at e; cases e), Out.refl _ _, fun _ => rfl⟩
        · have HF : Hid (flushCode D a = 0) := by simp [Hid, flushCode, h5]
          clear h3 k1 k2 e1
          go_enter Try.func72, Try.ntmps72
          go_wp2_with fail
          refine (l2Line_any d _ _ _ a _ c0 (by omega)).mono ?_
          rintro e w0 ⟨rfl, rfl⟩
          rw [h5]
          clear h5
          go_wp2_with fail
          refine (l2Flush_any d t base _ _ _ D a _ (unhide H) hbase (unhide HG) n2 n3).mono ?_
          rintro e w2 ⟨rfl, u1, u2, u3, hM, hO⟩
          have M2 := hide hM
          have O2 := hide hO
          clear hM hO h0 h1 h2 c0
          go_wp2_with fail
          go_ret
          exact ⟨ret_int (by rw [(unhide HC).1, unhide HF]), fun _ => ⟨u1, u2, u3, by rw [(unhide HC).2]; exact unhide M2⟩, unhide O2, fun h => absurd (by rw [(unhide HC).1, unhide HF]) h⟩
      · have e4 : v ≠ 0 := by simpa using h3
        have HC : Hid (actCode D (2, a, v) = 1) := by simp only [Hid, actCode]; rw [if_neg (by decide), if_neg (fun h => e4 h.2), if_neg (fun h => by cases h.1)]
        clear e4 k1 k2 e1
        go_enter Try.func72, Try.ntmps72
        go_wp2_with fail
        go_ret
        exact ⟨ret_int (unhide HC).symm, (fun e => by rw [unhide HC] at e; cases e), Out.refl _ _, fun _ => rfl⟩
  · have e1 : k = 1 := by simpa using k1
    subst e1
    have HC : Hid (actCode D (1, a, v) = storeCode D a v ∧ actDev D (1, a, v) = storeDev D a v) := ⟨rfl, rfl⟩
    clear k1
    cases h5 : atOk D.words.length a
    · have HF : Hid (storeCode D a v = 3) := by simp [Hid, storeCode, h5]
      go_enter Try.func72, Try.ntmps72
      go_wp2_with fail
      refine (l2At_any d _ _ _ a _ c0 (by omega)).mono ?_
      rintro e w0 ⟨rfl, rfl⟩
      rw [h5]
      clear h5
      go_wp2_with fail
      go_ret
      exact ⟨ret_int (by rw [(unhide HC).1, unhide HF]), (fun e => by rw [(unhide HC).1, unhide HF] at e; cases e), Out.refl _ _, fun _ => rfl⟩
    · cases h6 : wordOk v
      · have HF : Hid (storeCode D a v = 3) := by simp [Hid, storeCode, h6]
        go_enter Try.func72, Try.ntmps72
        go_wp2_with fail
        refine (l2At_any d _ _ _ a _ c0 (by omega)).mono ?_
        rintro e w0 ⟨rfl, rfl⟩
        rw [h5]
        clear h5
        go_wp2_with fail
        refine (l1Word_any v _).mono ?_
        rintro e w0 ⟨rfl, rfl⟩
        rw [h6]
        clear h6
        go_wp2_with fail
        go_ret
        exact ⟨ret_int (by rw [(unhide HC).1, unhide HF]), (fun e => by rw [(unhide HC).1, unhide HF] at e; cases e), Out.refl _ _, fun _ => rfl⟩
      · have HF : Hid (storeCode D a v = 0) := by simp [Hid, storeCode, h5, h6]
        go_enter Try.func72, Try.ntmps72
        go_wp2_with fail
        refine (l2At_any d _ _ _ a _ c0 (by omega)).mono ?_
        rintro e w0 ⟨rfl, rfl⟩
        rw [h5]
        clear h5
        go_wp2_with fail
        refine (l1Word_any v _).mono ?_
        rintro e w1 ⟨rfl, rfl⟩
        rw [h6]
        clear h6
        have HD := hide ((unhide H).drew)
        go_wp2_with fail
        go_region_with (go_at_call 46; refine (l2Store_any d t base _ _ _ D a v _ (unhide HD) hbase (by omega)).mono ?_; rintro e w2 ⟨rfl, u1, u2, u3, hM, hO⟩; have M2 := hide hM; have O2 := hide hO.undrew; clear hM hO)
        all_goals
          clear h0 h1 h2 c0
          go_wp2_with fail
          go_ret
          exact ⟨ret_int (by rw [(unhide HC).1, unhide HF]), fun _ => ⟨u1, u2, u3, by rw [(unhide HC).2]; exact unhide M2⟩, unhide O2, fun h => absurd (by rw [(unhide HC).1, unhide HF]) h⟩

set_option maxHeartbeats 4000000 in
theorem specDoActs_any (a1 a2 a3 : Option Addr) (c1 c2 c3 : Nat) (D : Dev) (af : Option Addr) (cf : Nat) (l : List Trip) (w : World) (h : DevAt w a1 a2 a3 D) (n1 : D.words.length ≤ 1048576) (n2 : D.flights.length ≤ 1048576) (n3 : D.over.length ≤ 1048576) (hI : TripsAt w af l) (n4 : l.length ≤ 1048576) (hcn : cellsN D ≤ 1050000) :
    Calls Try.prog 31 #[.agg #[.slice a1 D.words.length c1, .slice a2 D.flights.length c2, .slice a3 D.over.length c3], .slice af l.length cf] w fun e w' => ResRd e w.heap.size w' (chgCode D (actsCode D l)) (chgDev D (actsCode D l) (actsDev D l)) ∧ Below w.heap.size w w' := by
  have H := hide h
  have HI := hide hI
  clear h hI
  go_enter Try.func31, Try.ntmps31
  go_wp2_with fail
  obtain ⟨W, hW, z1, hb, hx, hy⟩ := boxes2 w [.slice a1 D.words.length c1, .slice a2 D.flights.length c2, .slice a3 D.over.length c3] [.int .i64 0, .slice none 0 0, .slice none 0 0, .slice none 0 0] 27 31
  rw [← hW]
  clear hW
  refine (specDeviceFault_any a1 a2 a3 c1 c2 c3 D _ ((unhide H).below (unhide hb)) n1 n2 n3).mono ?_
  rintro e w2 ⟨rfl, hb2⟩
  have z2 : W.heap.size ≤ w2.heap.size := hb2.size
  have B2 := hide (below_step (unhide hb) hb2 (by omega))
  have H2 := hide ((unhide H).below (unhide B2))
  have X2 := hide ((unhide hx).below hb2)
  have Y2 := hide ((unhide hy).below hb2)
  have y0 := (unhide Y2).cell 0
  have y1 := (unhide Y2).cell 1
  have y2 := (unhide Y2).cell 2
  have y3 := (unhide Y2).cell 3
  have f0 := (unhide Y2).frozen 0
  have f1 := (unhide Y2).frozen 1
  have f2 := (unhide Y2).frozen 2
  have f3 := (unhide Y2).frozen 3
  simp at y0 y1 y2 y3
  have x0 := (unhide X2).cell 0
  have x1 := (unhide X2).cell 1
  have x2 := (unhide X2).cell 2
  simp at x0 x1 x2
  clear hb2 hb hx hy H
  by_cases hf : devFault D = 0
  case neg =>
    have hfb : (devFault D != 0) = true := by simpa using hf
    have HC : Hid (chgCode D (actsCode D l) = devFault D ∧ chgDev D (actsCode D l) (actsDev D l) = none') := by simp [Hid, chgCode, chgDev, hf]
    clear hf
    go_wp2_with fail
    clear y0 y1 y2 y3 f0 f1 f2 f3
    generalize hU : (((w2.setCell _ _).setCell _ _).setCell _ _).setCell _ _ = U
    obtain ⟨XU, OU⟩ := store4' (unhide Y2) hU
    have t0 := (unhide XU).cell 0
    have t1 := (unhide XU).cell 1
    have t2 := (unhide XU).cell 2
    have t3 := (unhide XU).cell 3
    simp at t0 t1 t2 t3
    refine bodyPost_ret (v := .agg #[.int .i64 (devFault D), .slice none 0 0, .slice none 0 0, .slice none 0 0]) (by simp [results, Try.results31, go_sem, t0, t1, t2, t3]) rfl ⟨⟨none, 0, none, 0, none, 0, by rw [(unhide HC).1, (unhide HC).2]; rfl, by rw [(unhide HC).2]; exact rNone _ _ _⟩, (unhide OU).below (unhide B2) (Nat.le_refl _) (fun q hq e => by omega)⟩
  have HF := hide hf
  have HG := hide (good_of hf)
  rw [hf]
  clear hf
  have HI2 := hide ((unhide HI).below (unhide B2))
  by_cases hlen : (500 : Int) < l.length
  case pos =>
    have HC : Hid (chgCode D (actsCode D l) = 2 ∧ chgDev D (actsCode D l) (actsDev D l) = none') := by
      have : actsCode D l = 2 := by rw [actsCode, if_neg (by omega)]
      simp [Hid, chgCode, chgDev, this, unhide HF]
    go_wp2_with fail
    clear y0 y1 y2 y3 f0 f1 f2 f3
    generalize hU : (((w2.setCell _ _).setCell _ _).setCell _ _).setCell _ _ = U
    obtain ⟨XU, OU⟩ := store4' (unhide Y2) hU
    have t0 := (unhide XU).cell 0
    have t1 := (unhide XU).cell 1
    have t2 := (unhide XU).cell 2
    have t3 := (unhide XU).cell 3
    simp at t0 t1 t2 t3
    refine bodyPost_ret (v := .agg #[.int .i64 2, .slice none 0 0, .slice none 0 0, .slice none 0 0]) (by simp [results, Try.results31, go_sem, t0, t1, t2, t3]) rfl ⟨⟨none, 0, none, 0, none, 0, by rw [(unhide HC).1, (unhide HC).2]; rfl, by rw [(unhide HC).2]; exact rNone _ _ _⟩, (unhide OU).below (unhide B2) (Nat.le_refl _) (fun q hq e => by omega)⟩
  have HLE : Hid (actsCode D l = (actsRun l D).1) := by rw [Hid, actsCode, if_pos (by omega)]
  go_wp2_with fail
  clear y0 y1 y2 y3 f0 f1 f2 f3 x0 x1 x2
  refine (l2Copy_any w.heap.size _ a1 a2 a3 c1 c2 c3 D _ (unhide X2) (unhide H2) (by have := (unhide HG).small; omega) n1 n2 n3).mono ?_
  rintro e w4 ⟨⟨v1, v2, v3, rfl, hS⟩, hb4⟩
  obtain ⟨s1, d1, s2, d2, s3, d3, e1, e2, e3, -⟩ := hS.form
  subst e1 e2 e3
  have z4 : w2.heap.size ≤ w4.heap.size := hb4.size
  have B4 := hide (below_step (unhide B2) hb4 (by omega))
  have Y4 := hide ((unhide Y2).below hb4)
  have S4 := hide hS
  have HS := hide (fun q hq => SDev.lt (q := q) hS hq)
  clear hb4 hS X2 H2 Y2 B2
  go_wp2_with fail
  obtain ⟨U, hW, z5, hb, hx⟩ := boxes1 w4 [.slice s1 D.words.length d1, .slice s2 D.flights.length d2, .slice s3 D.over.length d3] 27
  rw [← hW]
  clear hW
  have B5 := hide (below_step (unhide B4) (unhide hb) (by omega))
  have Y5 := hide ((unhide Y4).below (unhide hb))
  have S5 := hide ((unhide S4).below (unhide hb))
  have M5 : Hid (SMem U w2.heap.size w4.heap.size 27 (.slice s1 D.words.length d1) (.slice s2 D.flights.length d2) (.slice s3 D.over.length d3) D) := ⟨unhide hx, unhide S5, fun q hq e => by have := unhide HS q hq; omega⟩
  clear hb hx B4 Y4 S4 S5
  have T5 := hide ((unhide HI).below (unhide B5))
  have TB : Hid (l ≠ [] → ∀ x, af = some x → x.block < w.heap.size) := fun hne x hx => by
    rcases unhide HI with e | ⟨b, o, e, lb, _⟩
    · exact absurd e hne
    · rw [e] at hx; injection hx with hx; subst hx; exact lb
  have hlz : w2.heap.size ≤ w4.heap.size := z4
  clear HI2 HI
  go_loopw [7] (fun i wr => ∃ (k : Nat) (u1 u2 u3 : Value) (Dk : Dev), k ≤ l.length ∧ i = .int .i64 k ∧ Hid (SMem wr w2.heap.size w4.heap.size 27 u1 u2 u3 Dk) ∧ Hid (Good Dk) ∧ Hid (cellsN Dk ≤ cellsN D + k) ∧ Hid (actsRun (l.drop k) Dk = actsRun l D) ∧ Hid (Below w.heap.size w wr) ∧ Hid (Box wr (w.heap.size + 1) [.int .i64 0, .slice none 0 0, .slice none 0 0, .slice none 0 0] 31) ∧ Hid (TripsAt wr af l) ∧ U.heap.size ≤ wr.heap.size) (fun i _ => l.length - (intOf i).toNat)
  case atStart => exact ⟨0, _, _, _, D, Nat.zero_le _, rfl, M5, HG, Nat.le_refl _, rfl, B5, Y5, T5, Nat.le_refl _⟩
  case round =>
    obtain ⟨k, u1, u2, u3, Dk, hk, rfl, HM, HGk, HN, HR, HB, HY, HT, zr⟩ := hrel
    clear M5 B5 Y5 T5
    by_cases hlt : k < l.length
    · obtain ⟨b, o, rfl, lb, hc⟩ := (unhide HT).at hlt
      obtain ⟨hc0, hc1, hc2⟩ := hc k hlt
      clear hc
      have hdrop : Hid (actsRun (l.drop k) Dk = actsRun ((l[k].1, l[k].2.1, l[k].2.2) :: l.drop (k + 1)) Dk) := by rw [Hid, List.drop_eq_getElem_cons hlt]
      generalize l[k].1 = x1 at *
      generalize l[k].2.1 = x2 at *
      generalize l[k].2.2 = x3 at *
      have k0 : (0 : Int) ≤ (k : Int) := by omega
      have k1 : (k : Int) < l.length := by omega
      go_wp2_with fail
      refine (l2Act_any w4.heap.size _ w2.heap.size u1 u2 u3 Dk b (o + k * 3) x1 x2 x3 _ (unhide HM) (by omega) (unhide HGk) hc0 hc1 hc2 (by have := unhide HN; omega)).mono ?_
      rintro e w6 ⟨rfl, hC, hO, -⟩
      have z6 : wr.heap.size ≤ w6.heap.size := hO.size
      have hfr : ∀ q, q < w2.heap.size → ¬ (q = w4.heap.size ∨ SB u1 u2 u3 Dk q) := fun q hq e => by
        rcases e with e | e
        · omega
        · have := (SDev.lt (unhide HM).dev e).1; omega
      have B6 := hide (hO.below (unhide HB) (Nat.le_refl _) (fun q hq e => hfr q (by omega) e))
      have Y6 := hide ((unhide HY).out hO (hfr _ (by omega)))
      have T6 := hide (hO.trips (unhide HT) (fun hne x hx e => hfr _ (by have := unhide TB hne x hx; omega) e))
      clear hO hfr hc0 hc1 hc2
      by_cases h0 : actCode Dk (x1, x2, x3) = 0
      · obtain ⟨p1, p2, p3, hM2⟩ := hC h0
        have M6 := hide hM2
        have G6 := hide ((unhide HGk).act h0)
        have N6 : Hid (cellsN (actDev Dk (x1, x2, x3)) ≤ cellsN D + (k + 1)) := by have h1 := cellsN_act Dk (x1, x2, x3); have h2 := unhide HN; exact hide (by omega)
        have R6 : Hid (actsRun (l.drop (k + 1)) (actDev Dk (x1, x2, x3)) = actsRun l D) := by rw [Hid, ← unhide HR, unhide hdrop, actsRun_cons h0]
        rw [h0]
        clear hM2 hC HM HGk HN HR HB HY HT h0 hdrop
        go_wp2_with fail
        go_roundw
        case rel => exact ⟨k + 1, p1, p2, p3, _, by omega, by go_num, M6, G6, N6, R6, B6, Y6, T6, by omega⟩
        case measure => simp [intOf]; omega
      · have h0b : (actCode Dk (x1, x2, x3) != 0) = true := by simpa using h0
        have R6 : Hid ((actsRun l D).1 = actCode Dk (x1, x2, x3)) := by rw [Hid, ← unhide HR, unhide hdrop, actsRun_stop h0]
        have HC : Hid (chgCode D (actsCode D l) = actCode Dk (x1, x2, x3) ∧ chgDev D (actsCode D l) (actsDev D l) = none') := by
          simp [Hid, chgCode, chgDev, unhide HLE, unhide R6, unhide HF, h0]
        generalize actCode Dk (x1, x2, x3) = cq at *
        clear hC HM HGk HN HR HB HY HT h0 hdrop
        have y0 := (unhide Y6).cell 0
        have y1 := (unhide Y6).cell 1
        have y2 := (unhide Y6).cell 2
        have y3 := (unhide Y6).cell 3
        have f0 := (unhide Y6).frozen 0
        have f1 := (unhide Y6).frozen 1
        have f2 := (unhide Y6).frozen 2
        have f3 := (unhide Y6).frozen 3
        simp at y0 y1 y2 y3
        go_wp2_with fail
        clear y0 y1 y2 y3 f0 f1 f2 f3
        generalize hU : (((w6.setCell _ _).setCell _ _).setCell _ _).setCell _ _ = U
        obtain ⟨XU, OU⟩ := store4' (unhide Y6) hU
        have t0 := (unhide XU).cell 0
        have t1 := (unhide XU).cell 1
        have t2 := (unhide XU).cell 2
        have t3 := (unhide XU).cell 3
        simp at t0 t1 t2 t3
        refine bodyPost_ret (v := .agg #[.int .i64 cq, .slice none 0 0, .slice none 0 0, .slice none 0 0]) (by simp [results, Try.results31, go_sem, t0, t1, t2, t3]) rfl ⟨⟨none, 0, none, 0, none, 0, by rw [(unhide HC).1, (unhide HC).2]; rfl, by rw [(unhide HC).2]; exact rNone _ _ _⟩, (unhide OU).below (unhide B6) (Nat.le_refl _) (fun q hq e => by omega)⟩
    · have hke : k = l.length := by omega
      have R6 : Hid (actsRun l D = (0, Dk)) := by rw [Hid, ← unhide HR, hke, List.drop_length]; rfl
      have HC : Hid (chgCode D (actsCode D l) = 0 ∧ chgDev D (actsCode D l) (actsDev D l) = Dk) := by
        simp [Hid, chgCode, chgDev, unhide HLE, unhide R6, unhide HF, actsDev]
      have k1 : ¬ (k : Int) < l.length := by omega
      obtain ⟨p1, q1, p2, q2, p3, q3, e1, e2, e3, hR⟩ := (unhide HM).dev.toR
      subst e1 e2 e3
      have c0 := (unhide HM).box.cell 0
      have c1 := (unhide HM).box.cell 1
      have c2 := (unhide HM).box.cell 2
      simp at c0 c1 c2
      have HRR := hide hR
      clear hR HR HM
      have y0 := (unhide HY).cell 0
      have y1 := (unhide HY).cell 1
      have y2 := (unhide HY).cell 2
      have y3 := (unhide HY).cell 3
      have f0 := (unhide HY).frozen 0
      have f1 := (unhide HY).frozen 1
      have f2 := (unhide HY).frozen 2
      have f3 := (unhide HY).frozen 3
      simp at y0 y1 y2 y3
      go_wp2_with fail
      clear y0 y1 y2 y3 f0 f1 f2 f3
      generalize hU : (((wr.setCell _ _).setCell _ _).setCell _ _).setCell _ _ = V
      obtain ⟨XV, OV⟩ := store4' (unhide HY) hU
      have t0 := (unhide XV).cell 0
      have t1 := (unhide XV).cell 1
      have t2 := (unhide XV).cell 2
      have t3 := (unhide XV).cell 3
      simp at t0 t1 t2 t3
      have zV : wr.heap.size ≤ V.heap.size := (unhide OV).size
      have R7 := ((unhide HRR).out (unhide OV) (fun q h1 h2 e => by omega)).wide (lo' := w.heap.size) (hi' := V.heap.size) (by omega) zV
      refine bodyPost_ret (v := .agg #[.int .i64 0, .slice p1 Dk.words.length q1, .slice p2 Dk.flights.length q2, .slice p3 Dk.over.length q3]) (by simp [results, Try.results31, go_sem, t0, t1, t2, t3]) rfl ⟨⟨_, _, _, _, _, _, by rw [(unhide HC).1, (unhide HC).2], by rw [(unhide HC).2]; exact R7⟩, (unhide OV).below (unhide HB) (Nat.le_refl _) (fun q hq e => by omega)⟩

theorem actsDev_len (D : Dev) (l : List Trip) (hw : D.words.length ≤ 1048576) (hc : cellsN D + l.length ≤ 1048576) : (chgDev D (actsCode D l) (actsDev D l)).words.length ≤ 1048576 ∧ (chgDev D (actsCode D l) (actsDev D l)).flights.length ≤ 1048576 ∧ (chgDev D (actsCode D l) (actsDev D l)).over.length ≤ 1048576 := by
  have h := actsRun_len l D
  unfold chgDev
  split
  · have h1 := h.1
    unfold cellsN at h1 hc
    unfold actsDev
    refine ⟨by rw [h.2]; exact hw, by omega, by omega⟩
  · simp [none']
end Go.Proofs.Ytgckkehlnahfmaa
