/-
  What spec.LoadWord and impl.LoadWord answer.
-/
import Derived.Test.YtdnfadbkpajloaaSpecFault
import Derived.Test.YtdnfadbkpajloaaImplFault
namespace Go.Proofs.Ytdnfadbkpajloaa
open Go.RowKit
set_option linter.unusedVariables false

theorem findI_look (l : List (Int × Int)) (a : Int) : ∀ (k : Int), (look l a = none ∧ findI l a k = -1) ∨ ∃ i : Nat, ∃ h : i < l.length, findI l a k = k + i ∧ look l a = some l[i].2 ∧ l[i].1 = a ∧ ∀ v, setC l (a, v) = l.set i (a, v) := by
  induction l with
  | nil => intro k; exact .inl ⟨rfl, rfl⟩
  | cons d l ih =>
    intro k
    rw [look, findI]
    by_cases hd : d.1 = a
    · refine .inr ⟨0, by simp, ?_⟩
      simp [hd, setC]
    · rw [if_neg hd, if_neg hd]
      rcases ih (k + 1) with h | ⟨i, hi, h1, h2, h3, h4⟩
      · exact .inl h
      · refine .inr ⟨i + 1, by simpa using hi, by rw [h1]; omega, by simpa using h2, by simpa using h3, fun v => ?_⟩
        rw [setC, if_neg hd, h4 v]; rfl

def loadCode (D : Dev) (a : Int) : Int := if devFault D = 0 then (if atOk D.words.length a = true then 0 else 3) else devFault D
def loadVal (D : Dev) (a : Int) : Int := if devFault D = 0 then (if atOk D.words.length a = true then load D a else 0) else 0

set_option maxHeartbeats 2000000 in
theorem load_any (m : Nat) (wv fo oo : Value) (fm om : Nat) (D : Dev) (a : Int) (w : World) (h : Mem w m wv fo oo fm om D) (ha : atOk D.words.length a = true) (hn : D.words.length ≤ 1048576) :
    Calls Try.prog 84 #[.pointer (some ⟨m, 0, none⟩), .int .i64 a] w fun e w' => e = .returned (.int .i64 (load D a)) ∧ w' = w := by
  have hab := inB_true.1 ha
  have wa : (Lit.int .i64 a).wf = true := wfI (by omega) (by omega)
  have c0 := h.box.cell 0
  have c2 := h.box.cell 2
  have c4 := h.box.cell 4
  simp at c0 c2 c4
  have r1 := h.ov.map.look_ok wa
  have r2 := h.fl.map.look_ok wa
  obtain ⟨aw, cw, ew, -, hI, -⟩ := intsAt_own h.words
  subst ew
  have hlt : a.toNat < D.words.length := by omega
  obtain ⟨b, o, rfl, hb, hc⟩ := hI.at hlt
  have hw := hc a.toNat hlt
  have hl0 : 0 ≤ a := by omega
  have hl1 : a < D.words.length := by omega
  clear h hI hc ha hab wa hb
  cases ho : look D.over a with
  | some v =>
    rw [ho] at r1
    simp only [Option.getD_some, Option.isSome_some] at r1
    have HV : Hid (load D a = v) := by simp [Hid, load, ho]
    clear ho r2
    go_enter Try.func84, Try.ntmps84
    go_wp2
    go_ret
    exact ⟨ret_int (unhide HV).symm, rfl⟩
  | none =>
    rw [ho] at r1
    simp only [Option.getD_none, Option.isSome_none] at r1
    cases hf : look D.flights a with
    | some v =>
      rw [hf] at r2
      simp only [Option.getD_some, Option.isSome_some] at r2
      have HV : Hid (load D a = v) := by simp [Hid, load, ho, hf]
      clear ho hf
      go_enter Try.func84, Try.ntmps84
      go_wp2
      go_ret
      exact ⟨ret_int (unhide HV).symm, rfl⟩
    | none =>
      rw [hf] at r2
      simp only [Option.getD_none, Option.isSome_none] at r2
      have HV : Hid (load D a = D.words[a.toNat]) := by simp [Hid, load, ho, hf, List.getD_eq_getElem?_getD, List.getElem?_eq_getElem hlt]
      clear ho hf
      go_enter Try.func84, Try.ntmps84
      go_wp2
      go_ret
      exact ⟨ret_int (unhide HV).symm, rfl⟩
set_option maxHeartbeats 2000000 in
theorem l2Load_any (d : Nat) (t : TypeId) (a1 a2 a3 : Option Addr) (c1 c2 c3 : Nat) (D : Dev) (a : Int) (w : World) (hx : Box w d [.slice a1 D.words.length c1, .slice a2 D.flights.length c2, .slice a3 D.over.length c3] t) (h : DevAt w a1 a2 a3 D) (ha : atOk D.words.length a = true) (n1 : D.words.length ≤ 1048576) (n2 : D.flights.length ≤ 1048576) (n3 : D.over.length ≤ 1048576) :
    Calls Try.prog 85 #[.pointer (some ⟨d, 0, none⟩), .int .i64 a] w fun e w' => e = .returned (.int .i64 (load D a)) ∧ w' = w := by
  have hab := inB_true.1 ha
  have q0 := hx.cell 0
  have q1 := hx.cell 1
  have q2 := hx.cell 2
  simp at q0 q1 q2
  have H := hide h
  clear hx h ha
  go_enter Try.func85, Try.ntmps85
  go_wp2_with fail
  refine (l2Find_any a3 c3 D.over a _ (unhide H).r3 (by omega)).mono ?_
  rintro e w1 ⟨rfl, rfl⟩
  rcases findI_look D.over a 0 with ⟨ho, hi⟩ | ⟨i, hil, hi, ho, -⟩
  case inr =>
    rw [hi]
    obtain ⟨b, o, rfl, -, hc⟩ := (unhide H).r3.at hil
    have hck := (hc i hil).2
    have HV : Hid (load D a = D.over[i].2) := by simp [Hid, load, ho]
    clear hc ho hi
    rw [Int.zero_add]
    have h0 : (0 : Int) ≤ (i : Int) := by omega
    have h1 : (i : Int) < D.over.length := by omega
    go_wp2_with fail
    go_ret
    exact ⟨ret_int (unhide HV).symm, rfl⟩
  rw [hi]
  clear hi
  go_wp2_with fail
  refine (l2Find_any a2 c2 D.flights a _ (unhide H).r2 (by omega)).mono ?_
  rintro e w1 ⟨rfl, rfl⟩
  rcases findI_look D.flights a 0 with ⟨hf, hi⟩ | ⟨i, hil, hi, hf, -⟩
  case inr =>
    rw [hi]
    obtain ⟨b, o, rfl, -, hc⟩ := (unhide H).r2.at hil
    have hck := (hc i hil).2
    have HV : Hid (load D a = D.flights[i].2) := by simp [Hid, load, ho, hf]
    clear hc hf ho hi
    rw [Int.zero_add]
    have h0 : (0 : Int) ≤ (i : Int) := by omega
    have h1 : (i : Int) < D.flights.length := by omega
    go_wp2_with fail
    go_ret
    exact ⟨ret_int (unhide HV).symm, rfl⟩
  rw [hi]
  clear hi
  have hlt : a.toNat < D.words.length := by omega
  obtain ⟨b, o, rfl, -, hc⟩ := (unhide H).r1.at hlt
  have hck := hc a.toNat hlt
  have HV : Hid (load D a = D.words[a.toNat]) := by simp [Hid, load, ho, hf, List.getD_eq_getElem?_getD, List.getElem?_eq_getElem hlt]
  have hl0 : 0 ≤ a := by omega
  have hl1 : a < D.words.length := by omega
  clear hc ho hf hab
  go_wp2_with fail
  go_ret
  exact ⟨ret_int (unhide HV).symm, rfl⟩
set_option maxHeartbeats 2000000 in
theorem implLoadWord_any (a1 a2 a3 : Option Addr) (c1 c2 c3 : Nat) (D : Dev) (a : Int) (w : World) (h : DevAt w a1 a2 a3 D) (n1 : D.words.length ≤ 1048576) (n2 : D.flights.length ≤ 1048576) (n3 : D.over.length ≤ 1048576) :
    Calls Try.prog 18 #[.agg #[.slice a1 D.words.length c1, .slice a2 D.flights.length c2, .slice a3 D.over.length c3], .int .i64 a] w fun e w' => e = .returned (.agg #[.int .i64 (loadCode D a), .int .i64 (loadVal D a)]) ∧ Below w.heap.size w w' := by
  have H := hide h
  clear h
  go_enter Try.func18, Try.ntmps18
  go_wp2_with fail
  obtain ⟨W, hW, z1, hb, hx, hy⟩ := boxes2 w [.slice a1 D.words.length c1, .slice a2 D.flights.length c2, .slice a3 D.over.length c3] [.int .i64 0, .int .i64 0] 27 37
  rw [← hW]
  clear hW
  refine (openedDevice_any a1 a2 a3 c1 c2 c3 D _ ((unhide H).below (unhide hb)) n1 n2 n3).mono ?_
  rintro e w2 ⟨hor, hb2⟩
  have z2 : W.heap.size ≤ w2.heap.size := hb2.size
  have B2 := hide (below_step (unhide hb) hb2 (by omega))
  have Y2 := hide ((unhide hy).below hb2)
  have y0 := (unhide Y2).cell 0
  have y1 := (unhide Y2).cell 1
  have f0 := (unhide Y2).frozen 0
  have f1 := (unhide Y2).frozen 1
  simp at y0 y1
  clear hb2 hb hx hy H
  rcases hor with ⟨hg, m, wv, fo, oo, fm, om, rfl, hM, hL⟩ | ⟨hf, rfl⟩
  case inr =>
    have hfb : (devFault D != 0) = true := by simpa using hf
    have HC : Hid (loadCode D a = devFault D ∧ loadVal D a = 0) := by simp [Hid, loadCode, loadVal, hf]
    clear hf
    go_wp2_with fail
    clear y0 y1 f0 f1
    generalize hU : (w2.setCell _ _).setCell _ _ = U
    obtain ⟨XU, OU⟩ := store2' (unhide Y2) hU
    have t0 := (unhide XU).cell 0
    have t1 := (unhide XU).cell 1
    simp at t0 t1
    refine bodyPost_ret (v := .agg #[.int .i64 (devFault D), .int .i64 0]) (by simp [results, Try.results18, go_sem, t0, t1]) rfl ⟨by rw [(unhide HC).1, (unhide HC).2], (unhide OU).below (unhide B2) (Nat.le_refl _) (fun q hq e => by omega)⟩
  have hd0 := devFault_good hg
  have HM := hide hM
  obtain ⟨aw, cw, ew, -⟩ := intsAt_own hM.words
  subst ew
  have c0 := hM.box.cell 0
  simp at c0
  clear hg hM hL
  go_wp2_with fail
  refine (hasWord_any m _ cw aw a _ c0 n1).mono ?_
  rintro e w3 ⟨rfl, rfl⟩
  cases ha : atOk D.words.length a
  · have HC : Hid (loadCode D a = 3 ∧ loadVal D a = 0) := by simp [Hid, loadCode, loadVal, hd0, ha]
    clear ha hd0
    go_wp2_with fail
    clear y0 y1 f0 f1
    generalize hU : (w3.setCell _ _).setCell _ _ = U
    obtain ⟨XU, OU⟩ := store2' (unhide Y2) hU
    have t0 := (unhide XU).cell 0
    have t1 := (unhide XU).cell 1
    simp at t0 t1
    refine bodyPost_ret (v := .agg #[.int .i64 3, .int .i64 0]) (by simp [results, Try.results18, go_sem, t0, t1]) rfl ⟨by rw [(unhide HC).1, (unhide HC).2], (unhide OU).below (unhide B2) (Nat.le_refl _) (fun q hq e => by omega)⟩
  · have HC : Hid (loadCode D a = 0 ∧ loadVal D a = load D a) := by simp [Hid, loadCode, loadVal, hd0, ha]
    have HA := hide ha
    clear ha hd0
    go_wp2_with fail
    refine (load_any m _ _ _ _ _ D a _ (unhide HM) (unhide HA) n1).mono ?_
    rintro e w4 ⟨rfl, rfl⟩
    generalize hv : load D a = v at *
    have HVV := hide hv
    clear hv
    go_wp2_with fail
    clear y0 y1 f0 f1
    generalize hU : (w4.setCell _ _).setCell _ _ = U
    obtain ⟨XU, OU⟩ := store2' (unhide Y2) hU
    have t0 := (unhide XU).cell 0
    have t1 := (unhide XU).cell 1
    simp at t0 t1
    refine bodyPost_ret (v := .agg #[.int .i64 0, .int .i64 v]) (by simp [results, Try.results18, go_sem, t0, t1]) rfl ⟨by rw [(unhide HC).1, (unhide HC).2], (unhide OU).below (unhide B2) (Nat.le_refl _) (fun q hq e => by omega)⟩
set_option maxHeartbeats 2000000 in
theorem specLoadWord_any (a1 a2 a3 : Option Addr) (c1 c2 c3 : Nat) (D : Dev) (a : Int) (w : World) (h : DevAt w a1 a2 a3 D) (n1 : D.words.length ≤ 1048576) (n2 : D.flights.length ≤ 1048576) (n3 : D.over.length ≤ 1048576) :
    Calls Try.prog 19 #[.agg #[.slice a1 D.words.length c1, .slice a2 D.flights.length c2, .slice a3 D.over.length c3], .int .i64 a] w fun e w' => e = .returned (.agg #[.int .i64 (loadCode D a), .int .i64 (loadVal D a)]) ∧ Below w.heap.size w w' := by
  have H := hide h
  clear h
  go_enter Try.func19, Try.ntmps19
  go_wp2_with fail
  obtain ⟨W, hW, z1, hb, hx, hy⟩ := boxes2 w [.slice a1 D.words.length c1, .slice a2 D.flights.length c2, .slice a3 D.over.length c3] [.int .i64 0, .int .i64 0] 27 37
  rw [← hW]
  clear hW
  refine (specDeviceFault_any a1 a2 a3 c1 c2 c3 D _ ((unhide H).below (unhide hb)) n1 n2 n3).mono ?_
  rintro e w2 ⟨rfl, hb2⟩
  have z2 : W.heap.size ≤ w2.heap.size := hb2.size
  have B2 := hide (below_step (unhide hb) hb2 (by omega))
  have H2 := hide ((unhide H).below (unhide B2))
  have X2 := hide ((unhide hx).below hb2)
  have Y2 := hide ((unhide hy).below hb2)
  have y0 := (unhide Y2).cell 0
  have y1 := (unhide Y2).cell 1
  have f0 := (unhide Y2).frozen 0
  have f1 := (unhide Y2).frozen 1
  have x0 := (unhide X2).cell 0
  simp at y0 y1 x0
  clear hb2 hb hx hy H
  by_cases hf : devFault D = 0
  case neg =>
    have hfb : (devFault D != 0) = true := by simpa using hf
    have HC : Hid (loadCode D a = devFault D ∧ loadVal D a = 0) := by simp [Hid, loadCode, loadVal, hf]
    clear hf
    go_wp2_with fail
    clear y0 y1 f0 f1
    generalize hU : (w2.setCell _ _).setCell _ _ = U
    obtain ⟨XU, OU⟩ := store2' (unhide Y2) hU
    have t0 := (unhide XU).cell 0
    have t1 := (unhide XU).cell 1
    simp at t0 t1
    refine bodyPost_ret (v := .agg #[.int .i64 (devFault D), .int .i64 0]) (by simp [results, Try.results19, go_sem, t0, t1]) rfl ⟨by rw [(unhide HC).1, (unhide HC).2], (unhide OU).below (unhide B2) (Nat.le_refl _) (fun q hq e => by omega)⟩
  have HF := hide hf
  rw [hf]
  clear hf
  go_wp2_with fail
  refine (l2At_any w.heap.size _ _ _ a _ x0 n1).mono ?_
  rintro e w3 ⟨rfl, rfl⟩
  cases ha : atOk D.words.length a
  · have HC : Hid (loadCode D a = 3 ∧ loadVal D a = 0) := by simp [Hid, loadCode, loadVal, unhide HF, ha]
    clear ha
    go_wp2_with fail
    clear y0 y1 f0 f1
    generalize hU : (w3.setCell _ _).setCell _ _ = U
    obtain ⟨XU, OU⟩ := store2' (unhide Y2) hU
    have t0 := (unhide XU).cell 0
    have t1 := (unhide XU).cell 1
    simp at t0 t1
    refine bodyPost_ret (v := .agg #[.int .i64 3, .int .i64 0]) (by simp [results, Try.results19, go_sem, t0, t1]) rfl ⟨by rw [(unhide HC).1, (unhide HC).2], (unhide OU).below (unhide B2) (Nat.le_refl _) (fun q hq e => by omega)⟩
  · have HC : Hid (loadCode D a = 0 ∧ loadVal D a = load D a) := by simp [Hid, loadCode, loadVal, unhide HF, ha]
    have HA := hide ha
    clear ha
    go_wp2_with fail
    refine (l2Load_any w.heap.size _ a1 a2 a3 c1 c2 c3 D a _ (unhide X2) (unhide H2) (unhide HA) n1 n2 n3).mono ?_
    rintro e w4 ⟨rfl, rfl⟩
    generalize hv : load D a = v at *
    have HVV := hide hv
    clear hv
    go_wp2_with fail
    clear y0 y1 f0 f1
    generalize hU : (w4.setCell _ _).setCell _ _ = U
    obtain ⟨XU, OU⟩ := store2' (unhide Y2) hU
    have t0 := (unhide XU).cell 0
    have t1 := (unhide XU).cell 1
    simp at t0 t1
    refine bodyPost_ret (v := .agg #[.int .i64 0, .int .i64 v]) (by simp [results, Try.results19, go_sem, t0, t1]) rfl ⟨by rw [(unhide HC).1, (unhide HC).2], (unhide OU).below (unhide B2) (Nat.le_refl _) (fun q hq e => by omega)⟩
end Go.Proofs.Ytdnfadbkpajloaa
