/-
  What (*memory).do, doAll and impl.DoActs do.
-/
import Derived.Test.YtdijmijipgnlgaaDoMath
namespace Go.Proofs.Ytdijmijipgnlgaa
open Go.RowKit
set_option linter.unusedVariables false

theorem Chg.pre {m : Nat} {wv fo oo : Value} {fm om : Nat} {w W w' : World} {D' : Dev} (h : Chg m wv fo oo fm om W w' D') (hz : w.heap.size ≤ W.heap.size) : Chg m wv fo oo fm om w w' D' := by
  obtain ⟨a, b, c, d, e, hM, hB⟩ := h
  exact ⟨a, b, c, d, e, hM, fun q hq => (hB q hq).imp id (fun h => Nat.le_trans hz h)⟩
theorem Out.pre {F : Nat → Prop} {w W w' : World} (h : Out F W w') (hb : Below w.heap.size w W) : Out F w w' := (Out.ofBelow hb).trans h (fun _ _ h => h)

set_option maxHeartbeats 2000000 in
theorem do_any (m : Nat) (wv fo oo : Value) (fm om : Nat) (D : Dev) (k a v : Int) (w : World) (h : Mem w m wv fo oo fm om D) (hg : Good D) (hn : cellsN D ≤ 1100000) :
    Calls Try.prog 176 #[.pointer (some ⟨m, 0, none⟩), .agg #[.int .i64 k, .int .i64 a, .int .i64 v]] w fun e w' => e = .returned (.int .i64 (actCode D (k, a, v))) ∧ (actCode D (k, a, v) = 0 → Chg m wv fo oo fm om w w' (actDev D (k, a, v))) ∧ Out (MemB m wv fo oo fm om) w w' := by
  have n2 : D.flights.length ≤ 1100000 := by unfold cellsN at hn; omega
  have n3 : D.over.length ≤ 1100000 := by unfold cellsN at hn; omega
  have hsz := hg.small
  have HG := hide hg
  have H := hide h
  clear h hg hn
  cases h1 : (k == 1)
  · have e1 : k ≠ 1 := by simpa using h1
    cases h2 : (k == 2 && v == 0)
    · have e2 : ¬ (k = 2 ∧ v = 0) := by simpa using h2
      cases h3 : (k == 3 && (a == 0 && v == 0))
      · have e3 : ¬ (k = 3 ∧ a = 0 ∧ v = 0) := by simpa using h3
        have HC : Hid (actCode D (k, a, v) = 1) := by simp only [Hid, actCode]; rw [if_neg e1, if_neg e2, if_neg e3]
        cases k2 : (k == 2)
        · cases k3 : (k == 3)
          · clear e1 e2 e3 h2 h3
            go_enter Try.func176, Try.ntmps176
            go_wp2
            go_ret
            exact ⟨ret_int (unhide HC).symm, (fun e => by rw [unhide HC] at e; cases e), Out.ofBelow ((Below.refl _ _).alloc (Nat.le_refl _) _)⟩
          · cases k4 : (a == 0)
            · clear e1 e2 e3 h2 h3
              go_enter Try.func176, Try.ntmps176
              go_wp2
              go_ret
              exact ⟨ret_int (unhide HC).symm, (fun e => by rw [unhide HC] at e; cases e), Out.ofBelow ((Below.refl _ _).alloc (Nat.le_refl _) _)⟩
            · have k5 : (v == 0) = false := by rw [k3, k4] at h3; simpa using h3
              clear e1 e2 e3 h2 h3
              go_enter Try.func176, Try.ntmps176
              go_wp2
              go_ret
              exact ⟨ret_int (unhide HC).symm, (fun e => by rw [unhide HC] at e; cases e), Out.ofBelow ((Below.refl _ _).alloc (Nat.le_refl _) _)⟩
        · have k5 : (v == 0) = false := by rw [k2] at h2; simpa using h2
          have k6 : (k == 3) = false := by
            have : k = 2 := by simpa using k2
            subst this; rfl
          clear e1 e2 e3 h2 h3
          go_enter Try.func176, Try.ntmps176
          go_wp2
          go_ret
          exact ⟨ret_int (unhide HC).symm, (fun e => by rw [unhide HC] at e; cases e), Out.ofBelow ((Below.refl _ _).alloc (Nat.le_refl _) _)⟩
      · have e3 : k = 3 ∧ a = 0 ∧ v = 0 := by simpa using h3
        have HC : Hid (actCode D (k, a, v) = 0 ∧ actDev D (k, a, v) = fenceDev D) := ⟨by simp only [actCode]; rw [if_neg e1, if_neg e2, if_pos e3], by simp only [actDev]; rw [if_neg e1, if_neg e2]⟩
        obtain ⟨rfl, rfl, rfl⟩ := e3
        clear e1 e2 h1 h2 h3
        go_enter Try.func176, Try.ntmps176
        go_wp2_with fail
        obtain ⟨W, hW, z1, hb, hx⟩ := boxes1 w [.int .i64 3, .int .i64 0, .int .i64 0] 138
        rw [← hW]
        clear hW
        refine (fence_any m wv fo oo fm om D _ ((unhide H).below (unhide hb)) (unhide HG) (by omega)).mono ?_
        rintro e w2 ⟨rfl, hC, hO⟩
        have C2 := hide ((hC rfl).pre (w := w) (by omega))
        have O2 := hide (hO.pre (unhide hb))
        clear hC hO hb hx
        go_wp2_with fail
        go_ret
        exact ⟨ret_int (unhide HC).1.symm, fun _ => by rw [(unhide HC).2]; exact unhide C2, unhide O2⟩
    · have e2 : k = 2 ∧ v = 0 := by simpa using h2
      have HC : Hid (actCode D (k, a, v) = flushCode D a ∧ actDev D (k, a, v) = flushDev D a) := ⟨by simp only [actCode]; rw [if_neg e1, if_pos e2], by simp only [actDev]; rw [if_neg e1, if_pos e2]⟩
      obtain ⟨rfl, rfl⟩ := e2
      clear e1 h1 h2
      go_enter Try.func176, Try.ntmps176
      go_wp2_with fail
      obtain ⟨W, hW, z1, hb, hx⟩ := boxes1 w [.int .i64 2, .int .i64 a, .int .i64 0] 138
      rw [← hW]
      clear hW
      refine (flush_any m wv fo oo fm om D a _ ((unhide H).below (unhide hb)) (unhide HG) n2 n3).mono ?_
      rintro e w2 ⟨rfl, hC, hO⟩
      have C2 := hide (fun h0 => (hC h0).pre (w := w) (by omega))
      have O2 := hide (hO.pre (unhide hb))
      clear hC hO hb hx
      generalize hq : flushCode D a = q at *
      have HQ := hide hq
      clear hq
      go_wp2_with fail
      go_ret
      exact ⟨ret_int (unhide HC).1.symm, fun h0 => by rw [(unhide HC).2]; exact unhide C2 (by rw [← (unhide HC).1]; exact h0), unhide O2⟩
  · have e1 : k = 1 := by simpa using h1
    have HC : Hid (actCode D (k, a, v) = storeCode D a v ∧ actDev D (k, a, v) = storeDev D a v) := ⟨by simp only [actCode]; rw [if_pos e1], by simp only [actDev]; rw [if_pos e1]⟩
    subst e1
    clear h1
    go_enter Try.func176, Try.ntmps176
    go_wp2_with fail
    obtain ⟨W, hW, z1, hb, hx⟩ := boxes1 w [.int .i64 1, .int .i64 a, .int .i64 v] 138
    rw [← hW]
    clear hW
    refine (store_any m wv fo oo fm om D a v _ ((unhide H).below (unhide hb)) hsz.1 (by omega)).mono ?_
    rintro e w2 ⟨rfl, hC, hO⟩
    have C2 := hide (fun h0 => (hC h0).pre (w := w) (by omega))
    have O2 := hide (hO.pre (unhide hb))
    clear hC hO hb hx
    generalize hq : storeCode D a v = q at *
    have HQ := hide hq
    clear hq
    go_wp2_with fail
    go_ret
    exact ⟨ret_int (unhide HC).1.symm, fun h0 => by rw [(unhide HC).2]; exact unhide C2 (by rw [← (unhide HC).1]; exact h0), unhide O2⟩

set_option maxHeartbeats 2000000 in
theorem doAll_any (m : Nat) (wv fo oo : Value) (fm om : Nat) (D : Dev) (al : Option Addr) (cl : Nat) (l : List Trip) (w : World) (h : Mem w m wv fo oo fm om D) (hg : Good D) (ht : TripsAt w al l) (hsep : l ≠ [] → ∀ x, al = some x → ¬ MemB m wv fo oo fm om x.block) (hn : cellsN D ≤ 1050000) (hl : l.length ≤ 1100000) :
    Calls Try.prog 121 #[.pointer (some ⟨m, 0, none⟩), .slice al l.length cl] w fun e w' => e = .returned (.int .i64 (actsCode D l)) ∧ (actsCode D l = 0 → Chg m wv fo oo fm om w w' (actsDev D l)) ∧ Out (MemB m wv fo oo fm om) w w' := by
  have H := hide h
  have HG := hide hg
  have HT := hide ht
  have HSEP := hide hsep
  clear h hg ht hsep
  by_cases hbig : (500 : Int) < l.length
  · have HC : Hid (actsCode D l = 2) := by simp only [Hid, actsCode]; rw [if_neg (by omega)]
    go_enter Try.func121, Try.ntmps121
    go_wp2_with fail
    go_ret
    exact ⟨ret_int (unhide HC).symm, (fun e => by rw [unhide HC] at e; cases e), Out.refl _ _⟩
  have hle : l.length ≤ 500 := by omega
  have HC : Hid (actsCode D l = (actsRun l D).1) := by simp only [Hid, actsCode]; rw [if_pos hle]
  have hmz := fun q hq => Mem.lt (q := q) (unhide H) hq
  have HMZ := hide hmz
  clear hmz
  go_enter Try.func121, Try.ntmps121
  go_wp2_with fail
  go_loopw [13] (fun i wr => ∃ (k : Nat) (wv' fo' oo' : Value) (fm' om' : Nat) (Dk : Dev), k ≤ l.length ∧ i = .int .i64 k ∧ Hid (Mem wr m wv' fo' oo' fm' om' Dk) ∧ Hid (Good Dk) ∧ Hid (cellsN Dk ≤ cellsN D + k) ∧ Hid (actsRun (l.drop k) Dk = actsRun l D) ∧ Hid (∀ q, MemB m wv' fo' oo' fm' om' q → MemB m wv fo oo fm om q ∨ w.heap.size ≤ q) ∧ Hid (Out (MemB m wv fo oo fm om) w wr) ∧ Hid (TripsAt wr al l)) (fun i _ => l.length - (intOf i).toNat)
  case atStart => exact ⟨0, wv, fo, oo, fm, om, D, Nat.zero_le _, rfl, H, HG, Nat.le_refl _, rfl, fun q hq => .inl hq, Out.refl _ _, HT⟩
  case round =>
    obtain ⟨k, wv', fo', oo', fm', om', Dk, hk, rfl, HM, HGk, HN, HR, HB, HU, HTr⟩ := hrel
    have zr : w.heap.size ≤ wr.heap.size := (unhide HU).size
    by_cases hlt : k < l.length
    · obtain ⟨b, o, rfl, lb, hc⟩ := (unhide HTr).at hlt
      obtain ⟨hc0, hc1, hc2⟩ := hc k hlt
      clear hc
      have hdrop : Hid (actsRun (l.drop k) Dk = actsRun ((l[k].1, l[k].2.1, l[k].2.2) :: l.drop (k + 1)) Dk) := by rw [Hid, List.drop_eq_getElem_cons hlt]
      generalize l[k].1 = x1 at *
      generalize l[k].2.1 = x2 at *
      generalize l[k].2.2 = x3 at *
      go_wp2_with fail
      obtain ⟨W, hW, z2, hb, hx⟩ := boxes1 wr [.int .i64 x1, .int .i64 x2, .int .i64 x3] 138
      rw [← hW]
      clear hW
      refine (do_any m wv' fo' oo' fm' om' Dk x1 x2 x3 _ ((unhide HM).below (unhide hb)) (unhide HGk) (by have := unhide HN; omega)).mono ?_
      rintro e w3 ⟨rfl, hC, hO⟩
      have z3 : W.heap.size ≤ w3.heap.size := hO.size
      have O3 := hide ((unhide HU).trans (hO.pre (unhide hb)) (fun q hq e => (unhide HB q e).elim id (fun h => by omega)))
      have T3 := hide ((hO.pre (unhide hb)).trips (unhide HTr) (fun hl x hx e => by
        have hxb : x.block < w.heap.size := by
          rcases unhide HT with h | ⟨b', o', e', lb', -⟩
          · exact absurd h hl
          · rw [e'] at hx; injection hx with hx; subst hx; exact lb'
        rcases unhide HB _ e with e | e
        · exact unhide HSEP hl x hx e
        · omega))
      by_cases h0 : actCode Dk (x1, x2, x3) = 0
      · obtain ⟨wv2, fo2, oo2, fm2, om2, hM2, hB2⟩ := hC h0
        have M3 := hide hM2
        have G3 := hide ((unhide HGk).act h0)
        have N3 : Hid (cellsN (actDev Dk (x1, x2, x3)) ≤ cellsN D + (k + 1)) := by have h1 := cellsN_act Dk (x1, x2, x3); have h2 := unhide HN; exact hide (by omega)
        have R3 : Hid (actsRun (l.drop (k + 1)) (actDev Dk (x1, x2, x3)) = actsRun l D) := by rw [Hid, ← unhide HR, unhide hdrop, actsRun_cons h0]
        have B3 : Hid (∀ q, MemB m wv2 fo2 oo2 fm2 om2 q → MemB m wv fo oo fm om q ∨ w.heap.size ≤ q) := fun q hq => by
          rcases hB2 q hq with h | h
          · exact unhide HB q h
          · exact .inr (by omega)
        rw [h0]
        clear hM2 hB2 hC hO hb hx HM HGk HN HR HB HU HTr hc0 hc1 hc2 h0 hdrop
        go_wp2_with fail
        go_roundw
        case rel => exact ⟨k + 1, wv2, fo2, oo2, fm2, om2, _, by omega, by go_num, M3, G3, N3, R3, B3, O3, T3⟩
        case measure => simp [intOf]; omega
      · have h0b : (actCode Dk (x1, x2, x3) != 0) = true := by simpa using h0
        have R3 : Hid ((actsRun l D).1 = actCode Dk (x1, x2, x3)) := by rw [Hid, ← unhide HR, unhide hdrop, actsRun_stop h0]
        have H0 := hide h0
        generalize hq : actCode Dk (x1, x2, x3) = q at *
        clear hC hO hb hx HM HGk HN HR HB HU HTr hc0 hc1 hc2 h0 hdrop hq
        go_wp2_with fail
        go_ret
        refine ⟨ret_int ((unhide HC).trans (unhide R3)).symm, (fun e => by rw [unhide HC, unhide R3] at e; exact absurd e (unhide H0)), unhide O3⟩
    · have hke : k = l.length := by omega
      have R3 : Hid (actsRun l D = (0, Dk)) := by rw [Hid, ← unhide HR, hke, List.drop_length]; rfl
      clear HR
      go_wp2_with fail
      go_ret
      refine ⟨ret_int (by rw [unhide HC, unhide R3]), fun _ => ⟨wv', fo', oo', fm', om', ?_, unhide HB⟩, unhide HU⟩
      rw [actsDev, unhide R3]
      exact unhide HM
end Go.Proofs.Ytdijmijipgnlgaa
