/-
  A device that is changed by the program: it is opened, changed, and told; what is stored.
-/
import Derived.Test.YtgckkehlnahfmaaListWalk
import Derived.Test.YtgckkehlnahfmaaNewDevWalk
namespace Go.Proofs.Ytgckkehlnahfmaa
open Go.RowKit
set_option linter.unusedVariables false

/-- The open device has become D'; what is new of it lies in new memory. -/
def Chg (m : Nat) (wv fo oo : Value) (fm om : Nat) (w w' : World) (D' : Dev) : Prop := ∃ wv' fo' oo' fm' om', Mem w' m wv' fo' oo' fm' om' D' ∧ ∀ q, MemB m wv' fo' oo' fm' om' q → MemB m wv fo oo fm om q ∨ w.heap.size ≤ q
def chgCode (D : Dev) (code : Int) : Int := if devFault D = 0 then code else devFault D
def chgDev (D : Dev) (code : Int) (D' : Dev) : Dev := if devFault D = 0 ∧ code = 0 then D' else none'

def storeCode (D : Dev) (a v : Int) : Int := if (atOk D.words.length a && wordOk v) = true then 0 else 3
def storeDev (D : Dev) (a v : Int) : Dev := ⟨D.words, D.flights, setC D.over (a, v)⟩

theorem Mem.setOver {w w' : World} {m : Nat} {wv fo oo : Value} {fm om : Nat} {D : Dev} (h : Mem w m wv fo oo fm om D) {oo' : Value} {L : List (Int × Int)} (hx : Box w' m [wv, fo, .map (some fm), oo', .map (some om)] 98) (hC : CM w' oo' om L) (hq : oo'.ownBlock = oo.ownBlock ∨ ∃ q, oo'.ownBlock = some q ∧ w.heap.size ≤ q) (ho : Out (fun q => q = m ∨ CMB oo om q) w w') :
    Chg m wv fo oo fm om w w' ⟨D.words, D.flights, L⟩ := by
  have hnew : ∀ q, CMB oo' om q → CMB oo om q ∨ w.heap.size ≤ q := by
    intro q hqq
    rcases hqq with hqq | rfl
    · rcases hq with hq | ⟨q', hq, hq2⟩
      · exact .inl (.inl (by rw [← hq]; exact hqq))
      · rw [hqq] at hq; injection hq with hq; subst hq; exact .inr hq2
    · exact .inl (.inr rfl)
  refine ⟨wv, fo, oo', fm, om, ⟨hx, ho.own h.words (fun q hq e => ?_), h.fl.out ho (fun q hq e => ?_), hC, h.s1, h.s2, fun e => ?_, h.s4, fun q hq e => ?_, fun q hq e => ?_⟩, ?_⟩
  · rcases e with rfl | e
    · exact h.s1 hq
    · exact h.s5 q hq e
  · rcases e with rfl | e
    · exact h.s2 hq
    · exact h.s6 q hq e
  · rcases hnew m e with e | e
    · exact h.s3 e
    · have := h.box.lt; omega
  · rcases hnew q e with e | e
    · exact h.s5 q hq e
    · have := (h.words.lt q hq).2; omega
  · rcases hnew q e with e | e
    · exact h.s6 q hq e
    · have := h.fl.lt hq; omega
  · intro q hqq
    rcases hqq with rfl | hqq | hqq | hqq
    · exact .inl (.inl rfl)
    · exact .inl (.inr (.inl hqq))
    · exact .inl (.inr (.inr (.inl hqq)))
    · rcases hnew q hqq with e | e
      · exact .inl (.inr (.inr (.inr e)))
      · exact .inr e

set_option maxHeartbeats 2000000 in
theorem store_any (m : Nat) (wv fo oo : Value) (fm om : Nat) (D : Dev) (a v : Int) (w : World) (h : Mem w m wv fo oo fm om D) (hs : D.words.length ≤ 328) (hl : D.over.length ≤ 10000000) :
    Calls Try.prog 42 #[.pointer (some ⟨m, 0, none⟩), .int .i64 a, .int .i64 v] w fun e w' => e = .returned (.int .i64 (storeCode D a v)) ∧ (storeCode D a v = 0 → Chg m wv fo oo fm om w w' (storeDev D a v)) ∧ Out (MemB m wv fo oo fm om) w w' := by
  obtain ⟨aw, cw, ew, -⟩ := intsAt_own h.words
  subst ew
  have c0 := h.box.cell 0
  simp at c0
  have H := hide h
  clear h
  go_enter Try.func42, Try.ntmps42
  go_wp2_with fail
  refine (hasWord_any m _ cw aw a _ c0 (by omega)).mono ?_
  rintro e w1 ⟨rfl, rfl⟩
  cases h1 : atOk D.words.length a
  · have HC : Hid (storeCode D a v = 3) := by simp [Hid, storeCode, h1]
    clear h1
    go_wp2_with fail
    go_ret
    exact ⟨ret_int (unhide HC).symm, (fun e => by rw [unhide HC] at e; cases e), Out.refl _ _⟩
  have HA := hide h1
  clear h1
  go_wp2_with fail
  refine (isWord_any v _).mono ?_
  rintro e w1 ⟨rfl, rfl⟩
  cases h2 : wordOk v
  · have HC : Hid (storeCode D a v = 3) := by simp [Hid, storeCode, h2]
    clear h2
    go_wp2_with fail
    go_ret
    exact ⟨ret_int (unhide HC).symm, (fun e => by rw [unhide HC] at e; cases e), Out.refl _ _⟩
  have HC : Hid (storeCode D a v = 0) := by simp [Hid, storeCode, h2, unhide HA]
  have hb1 := inB_true.1 (unhide HA)
  have hb2 := inB_true.1 h2
  clear h2
  go_wp2_with fail
  refine (put_any m 3 om oo _ _ D.over a v _ (unhide H).box rfl rfl (unhide H).ov (fun e => (unhide H).s3 (.inr e)) (fun e => (unhide H).s3 (.inl e)) hl (by omega)).mono ?_
  rintro e w2 ⟨rfl, oo', hX, hCM, hq, hO⟩
  have HR := hide ((unhide H).setOver hX hCM hq hO)
  have HO := hide (hO.weak (G := MemB m (.slice aw D.words.length cw) fo oo fm om) (fun q _ e => by rcases e with e | e; (exact .inl e); exact .inr (.inr (.inr e))))
  clear hX hCM hq hO
  go_wp2_with fail
  go_ret
  exact ⟨ret_int (unhide HC).symm, fun _ => unhide HR, unhide HO⟩

set_option maxHeartbeats 2000000 in
theorem changed_store (a1 a2 a3 : Option Addr) (c1 c2 c3 : Nat) (D D' : Dev) (code : Int) (p0 : Nat) (p1 : Nat) (w : World) (h : DevAt w a1 a2 a3 D) (n1 : D.words.length ≤ 1048576) (n2 : D.flights.length ≤ 1048576) (n3 : D.over.length ≤ 1048576) (m2 : D'.flights.length ≤ 10000000) (m3 : D'.over.length ≤ 10000000)
    (hch : Good D → ∀ w2, Below w.heap.size w w2 → ∀ m wv fo oo fm om, Mem w2 m wv fo oo fm om D → Calls Try.prog 41 #[.pointer (some ⟨m, 0, none⟩), .pointer (some ⟨p0, 0, none⟩), .pointer (some ⟨p1, 0, none⟩)] w2 fun e w3 => e = .returned (.int .i64 code) ∧ (code = 0 → Chg m wv fo oo fm om w2 w3 D') ∧ Out (MemB m wv fo oo fm om) w2 w3) :
    Calls Try.prog 40 #[.agg #[.slice a1 D.words.length c1, .slice a2 D.flights.length c2, .slice a3 D.over.length c3], .func (.func 41) #[] #[.pointer (some ⟨p0, 0, none⟩), .pointer (some ⟨p1, 0, none⟩)]] w fun e w' => ResIs e w.heap.size w' (chgCode D code) (chgDev D code D') ∧ Below w.heap.size w w' := by
  have H := hide h
  have HCH := hide hch
  clear h hch
  go_enter Try.func40, Try.ntmps40
  go_wp2_with fail
  obtain ⟨W, hW, z1, hb, hx, hy⟩ := boxes2 w [.slice a1 D.words.length c1, .slice a2 D.flights.length c2, .slice a3 D.over.length c3] [.int .i64 0, .slice none 0 0, .slice none 0 0, .slice none 0 0] 27 31
  rw [← hW]
  clear hW
  refine (openedDevice_any a1 a2 a3 c1 c2 c3 D _ ((unhide H).below (unhide hb)) n1 n2 n3).mono ?_
  rintro e w2 ⟨hor, hb2⟩
  have z2 : W.heap.size ≤ w2.heap.size := hb2.size
  have B2 := hide (below_step (unhide hb) hb2 (by omega))
  have Y2 := hide ((unhide hy).below hb2)
  have y0 := (unhide Y2).cell 0
  have y1 := (unhide Y2).cell 1
  have y2 := (unhide Y2).cell 2
  have y3 := (unhide Y2).cell 3
  have f0 := (unhide Y2).frozen 0
  have f1 := (unhide Y2).frozen 1
  have f2 := (unhide Y2).frozen 2
  have f3 := (unhide Y2).frozen 3
  simp at y0 y1 y2 y3
  clear hb2 hb hx hy H
  rcases hor with ⟨hg, m, wv, fo, oo, fm, om, rfl, hM, hL⟩ | ⟨hf, rfl⟩
  case inr =>
    have hfb : (devFault D != 0) = true := by simpa using hf
    have HC : Hid (chgCode D code = devFault D ∧ chgDev D code D' = none') := by simp [Hid, chgCode, chgDev, hf]
    clear hf
    go_wp2_with fail
    clear y0 y1 y2 y3 f0 f1 f2 f3
    generalize hU : (((w2.setCell _ _).setCell _ _).setCell _ _).setCell _ _ = U
    obtain ⟨XU, OU⟩ := store4' (unhide Y2) hU
    have t0 := (unhide XU).cell 0
    have t1 := (unhide XU).cell 1
    have t2 := (unhide XU).cell 2
    have t3 := (unhide XU).cell 3
    simp at t0 t1 t2 t3
    refine bodyPost_ret (v := .agg #[.int .i64 (devFault D), .slice none 0 0, .slice none 0 0, .slice none 0 0]) (by simp [results, Try.results40, go_sem, t0, t1, t2, t3]) rfl ⟨⟨_, _, _, by rw [(unhide HC).1], by rw [(unhide HC).2]; exact ownNone _ _⟩, (unhide OU).below (unhide B2) (Nat.le_refl _) (fun q hq e => by omega)⟩
  have HD0 := hide (devFault_good hg)
  have HG := hide hg
  have HM := hide hM
  have HL := hide hL
  clear hg hM hL
  go_wp2_with fail
  refine (unhide HCH (unhide HG) _ (unhide B2) m wv fo oo fm om (unhide HM)).mono ?_
  rintro e w3 ⟨rfl, hC, hO⟩
  have z3 : w2.heap.size ≤ w3.heap.size := hO.size
  have B3 := hide (hO.below (unhide B2) (Nat.le_refl _) (fun q hq e => by have := unhide HL q e; omega))
  have Y3 := hide ((unhide Y2).out hO (fun e => by have := unhide HL _ e; omega))
  clear hO y0 y1 y2 y3 f0 f1 f2 f3 Y2 B2
  have y0 := (unhide Y3).cell 0
  have y1 := (unhide Y3).cell 1
  have y2 := (unhide Y3).cell 2
  have y3 := (unhide Y3).cell 3
  have f0 := (unhide Y3).frozen 0
  have f1 := (unhide Y3).frozen 1
  have f2 := (unhide Y3).frozen 2
  have f3 := (unhide Y3).frozen 3
  simp at y0 y1 y2 y3
  by_cases hc : code = 0
  case neg =>
    have hcb : (code != 0) = true := by simpa using hc
    have HC : Hid (chgCode D code = code ∧ chgDev D code D' = none') := by simp [Hid, chgCode, chgDev, hc, unhide HD0]
    clear hc hC
    go_wp2_with fail
    clear y0 y1 y2 y3 f0 f1 f2 f3
    generalize hU : (((w3.setCell _ _).setCell _ _).setCell _ _).setCell _ _ = U
    obtain ⟨XU, OU⟩ := store4' (unhide Y3) hU
    have t0 := (unhide XU).cell 0
    have t1 := (unhide XU).cell 1
    have t2 := (unhide XU).cell 2
    have t3 := (unhide XU).cell 3
    simp at t0 t1 t2 t3
    refine bodyPost_ret (v := .agg #[.int .i64 code, .slice none 0 0, .slice none 0 0, .slice none 0 0]) (by simp [results, Try.results40, go_sem, t0, t1, t2, t3]) rfl ⟨⟨_, _, _, by rw [(unhide HC).1], by rw [(unhide HC).2]; exact ownNone _ _⟩, (unhide OU).below (unhide B3) (Nat.le_refl _) (fun q hq e => by omega)⟩
  obtain ⟨wv', fo', oo', fm', om', hM', hL'⟩ := hC hc
  have HC : Hid (chgCode D code = 0 ∧ chgDev D code D' = D') := by simp [Hid, chgCode, chgDev, hc, unhide HD0]
  rw [hc]
  clear hc hC
  have HM' := hide hM'
  have HL' : Hid (∀ q, MemB m wv' fo' oo' fm' om' q → W.heap.size ≤ q) := fun q hq => by
    rcases hL' q hq with h | h
    · exact unhide HL q h
    · omega
  clear hM' hL'
  go_wp2_with fail
  refine (device_any m wv' fo' oo' fm' om' D' W.heap.size _ (unhide HM') (unhide HL') (by omega) m2 m3).mono ?_
  rintro e w4 ⟨⟨s1, d1, s2, d2, s3, d3, rfl, hOD⟩, hb4⟩
  have z4 : w3.heap.size ≤ w4.heap.size := hb4.size
  have B4 := hide (below_step (unhide B3) hb4 (by omega))
  have Y4 := hide ((unhide Y3).below hb4)
  have OD := hide hOD
  clear hb4 hOD y0 y1 y2 y3 f0 f1 f2 f3 B3 Y3
  have y0 := (unhide Y4).cell 0
  have y1 := (unhide Y4).cell 1
  have y2 := (unhide Y4).cell 2
  have y3 := (unhide Y4).cell 3
  have f0 := (unhide Y4).frozen 0
  have f1 := (unhide Y4).frozen 1
  have f2 := (unhide Y4).frozen 2
  have f3 := (unhide Y4).frozen 3
  simp at y0 y1 y2 y3
  go_wp2_with fail
  clear y0 y1 y2 y3 f0 f1 f2 f3
  generalize hU : (((w4.setCell _ _).setCell _ _).setCell _ _).setCell _ _ = U
  obtain ⟨XU, OU⟩ := store4' (unhide Y4) hU
  have t0 := (unhide XU).cell 0
  have t1 := (unhide XU).cell 1
  have t2 := (unhide XU).cell 2
  have t3 := (unhide XU).cell 3
  simp at t0 t1 t2 t3
  have OD4 := (unhide OD).out (unhide OU) (fun q hq e => by have := ((unhide OD).lt hq).1; omega)
  have OD5 : OwnDev U w.heap.size (.slice s1 D'.words.length d1) (.slice s2 D'.flights.length d2) (.slice s3 D'.over.length d3) D' := ⟨own_base OD4.o1 (fun q hq => by have := (OD4.lt (.inl hq)).1; omega), own_base OD4.o2 (fun q hq => by have := (OD4.lt (.inr (.inl hq))).1; omega), own_base OD4.o3 (fun q hq => by have := (OD4.lt (.inr (.inr hq))).1; omega), OD4.n12, OD4.n13, OD4.n23⟩
  refine bodyPost_ret (v := .agg #[.int .i64 0, .slice s1 D'.words.length d1, .slice s2 D'.flights.length d2, .slice s3 D'.over.length d3]) (by simp [results, Try.results40, go_sem, t0, t1, t2, t3]) rfl ⟨⟨_, _, _, by rw [(unhide HC).1], by rw [(unhide HC).2]; exact OD5⟩, (unhide OU).below (unhide B4) (Nat.le_refl _) (fun q hq e => by omega)⟩

set_option maxHeartbeats 1000000 in
theorem storeFn_any (m : Nat) (wv fo oo : Value) (fm om : Nat) (D : Dev) (a v : Int) (p0 p1 : Nat) (w : World) (h : Mem w m wv fo oo fm om D) (hs : D.words.length ≤ 328) (hl : D.over.length ≤ 10000000) (h0 : w.cell? ⟨p0, 0, none⟩ = some (.int .i64 a)) (h1 : w.cell? ⟨p1, 0, none⟩ = some (.int .i64 v)) :
    Calls Try.prog 41 #[.pointer (some ⟨m, 0, none⟩), .pointer (some ⟨p0, 0, none⟩), .pointer (some ⟨p1, 0, none⟩)] w fun e w' => e = .returned (.int .i64 (storeCode D a v)) ∧ (storeCode D a v = 0 → Chg m wv fo oo fm om w w' (storeDev D a v)) ∧ Out (MemB m wv fo oo fm om) w w' := by
  have H := hide h
  clear h
  go_enter Try.func41, Try.ntmps41
  go_wp2_with fail
  refine (store_any m wv fo oo fm om D a v _ (unhide H) hs hl).mono ?_
  rintro e w2 ⟨rfl, hC, hO⟩
  have HC := hide hC
  have HO := hide hO
  clear hC hO
  generalize hk : storeCode D a v = k at *
  have HK := hide hk
  clear hk
  go_wp2_with fail
  go_ret
  exact ⟨ret_int (unhide HK).symm, fun e => unhide HC (by rw [← unhide HK]; exact e), unhide HO⟩
theorem Good.small {D : Dev} (h : Good D) : D.words.length ≤ 328 ∧ 16 ≤ D.words.length := by have := h.size; simp [sizeOk] at this; omega

set_option maxHeartbeats 2000000 in
theorem implStoreWord_any (a1 a2 a3 : Option Addr) (c1 c2 c3 : Nat) (D : Dev) (a v : Int) (w : World) (h : DevAt w a1 a2 a3 D) (n1 : D.words.length ≤ 1048576) (n2 : D.flights.length ≤ 1048576) (n3 : D.over.length ≤ 1048576) :
    Calls Try.prog 9 #[.agg #[.slice a1 D.words.length c1, .slice a2 D.flights.length c2, .slice a3 D.over.length c3], .int .i64 a, .int .i64 v] w fun e w' => ResIs e w.heap.size w' (chgCode D (storeCode D a v)) (chgDev D (storeCode D a v) (storeDev D a v)) ∧ Below w.heap.size w w' := by
  have hmf : ∀ (fn : Fn) (first cap : Array Value) (w : World), (Instr.makeFunc fn first cap).run Try.prog w = .ok (.func fn first cap) w := fun _ _ _ _ => rfl
  have H := hide h
  clear h
  go_enter Try.func9, Try.ntmps9
  go_wp2_with fail
  obtain ⟨W, hW, z1, hb, hx, hp, hq, hy⟩ := boxes4 w [.slice a1 D.words.length c1, .slice a2 D.flights.length c2, .slice a3 D.over.length c3] [.int .i64 a] [.int .i64 v] [.int .i64 0, .slice none 0 0, .slice none 0 0, .slice none 0 0] 27 2 2 31
  rw [← hW]
  clear hW
  have hlen : (storeDev D a v).over.length ≤ D.over.length + 1 := by
    show (setC D.over (a, v)).length ≤ _
    cases hk : (look D.over a).isSome
    · rw [setC_length_none (c := (a, v)) (by simpa using hk)]; exact Nat.le_refl _
    · rw [setC_length_some (c := (a, v)) hk]; omega
  refine (changed_store a1 a2 a3 c1 c2 c3 D (storeDev D a v) (storeCode D a v) _ _ _ ((unhide H).below (unhide hb)) n1 n2 n3 (by show D.flights.length ≤ _; omega) (by omega) (fun hg w2 hb2 m wv fo oo fm om hM => storeFn_any m wv fo oo fm om D a v _ _ w2 hM hg.small.1 (by omega) (((unhide hp).below hb2).cell 0) (((unhide hq).below hb2).cell 0))).mono ?_
  rintro e w2 ⟨⟨v1, v2, v3, rfl, hOD⟩, hb2⟩
  obtain ⟨s1, d1, s2, d2, s3, d3, e1, e2, e3, -⟩ := hOD.form
  subst e1 e2 e3
  have z2 : W.heap.size ≤ w2.heap.size := hb2.size
  have B2 := hide (below_step (unhide hb) hb2 (by omega))
  have Y2 := hide ((unhide hy).below hb2)
  have OD := hide hOD
  have y0 := (unhide Y2).cell 0
  have y1 := (unhide Y2).cell 1
  have y2 := (unhide Y2).cell 2
  have y3 := (unhide Y2).cell 3
  have f0 := (unhide Y2).frozen 0
  have f1 := (unhide Y2).frozen 1
  have f2 := (unhide Y2).frozen 2
  have f3 := (unhide Y2).frozen 3
  simp at y0 y1 y2 y3
  clear hb2 hOD hb hx hp hq hy hlen
  go_wp2_with fail
  clear y0 y1 y2 y3 f0 f1 f2 f3
  generalize hU : (((w2.setCell _ _).setCell _ _).setCell _ _).setCell _ _ = U
  obtain ⟨XU, OU⟩ := store4' (unhide Y2) hU
  have t0 := (unhide XU).cell 0
  have t1 := (unhide XU).cell 1
  have t2 := (unhide XU).cell 2
  have t3 := (unhide XU).cell 3
  simp at t0 t1 t2 t3
  have OD4 := (unhide OD).out (unhide OU) (fun q hq e => by have := ((unhide OD).lt hq).1; omega)
  have OD5 := OD4.base (base' := w.heap.size) (by omega)
  refine bodyPost_ret (by simp [results, Try.results9, go_sem, t0, t1, t2, t3]) rfl ⟨⟨_, _, _, rfl, OD5⟩, (unhide OU).below (unhide B2) (Nat.le_refl _) (fun q hq e => by omega)⟩
end Go.Proofs.Ytgckkehlnahfmaa
