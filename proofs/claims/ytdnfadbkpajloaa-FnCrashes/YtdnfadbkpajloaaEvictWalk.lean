/-
  A word is written back, as the program does it.
-/
import Derived.Test.YtdnfadbkpajloaaDropWalk
import Derived.RegionCalls
namespace Go.Proofs.Ytdnfadbkpajloaa
open Go.RowKit
set_option linter.unusedVariables false

set_option maxRecDepth 20000 in
set_option maxHeartbeats 2000000 in
theorem drop_any (b o mb : Nat) (ov : Value) (cs : List Value) (t : TypeId) (L : List (Int × Int)) (x : Int) (w : World) (hx : Box w b cs t) (c0 : cs[o]? = some ov) (c1 : cs[o + 1]? = some (.map (some mb))) (h : CM w ov mb L)
    (nb : b ≠ mb) (nb2 : ov.ownBlock ≠ some b) (hL : L.length ≤ 10000000) (hf : 0 ≤ x ∧ x ≤ 1000) :
    Calls Try.prog 144 #[.pointer (some ⟨b, o, none⟩), .int .i64 x] w fun e w' => e = .returned (.tuple #[]) ∧
      ∃ ov', Box w' b (cs.set o ov') t ∧ CM w' ov' mb (without L x) ∧ ov'.ownBlock = ov.ownBlock ∧ Out (fun q => q = b ∨ CMB ov mb q) w w' := by
  have hmf : ∀ (fn : Fn) (first cap : Array Value) (w : World), (Instr.makeFunc fn first cap).run Try.prog w = .ok (.func fn first cap) w := fun _ _ _ _ => rfl
  have wx : (Lit.int .i64 x).wf = true := wfI (by omega) (by omega)
  obtain ⟨W, hW, z1, hb, hbx⟩ := boxes1 w [.int .i64 x] 2
  have X := hide (hx.below (unhide hb))
  have H := hide (h.below (unhide hb))
  obtain ⟨W2, hrun, hm2, ho2⟩ := MapAt.del (w := W.drew) (unhide H).map (unhide H).uq wx 0
  have p0 := (unhide hbx).cell 0
  have q1 := (unhide X).cell (o + 1)
  rw [c1] at q1
  simp at p0
  have lt1 := hx.lt
  have lt2 : mb < w.heap.size := h.map.lt
  have OVL := hide (fun q hq => (h.row.lt q hq).2)
  have HM := hide hm2
  have HU := hide ho2
  have X2 : Hid (Box W2 b cs t) := (show Box W.drew b cs t from unhide X).out ho2 nb
  have R2 : Hid (W2.ownsRow 0 2 1 ov L.length (nums (keys L))) := ho2.own (w := W.drew) (unhide H).row (fun q hq e => (unhide H).ne (by rw [hq, e]))
  have P2 : W2.cell? ⟨w.heap.size, 0, none⟩ = some (.int .i64 x) := (ho2.cell (b := w.heap.size) (by show w.heap.size < W.heap.size; omega) (by omega) 0).trans p0
  have zW2 : W.heap.size ≤ W2.heap.size := ho2.size
  have HUQ := hide h.uq
  have HNE := hide h.ne
  have HFI := hide h.fine
  clear hm2 ho2 hx h
  go_enter Try.func144, Try.ntmps144
  go_wp2_with fail
  rw [← hW]
  clear hW
  go_region
  all_goals
    clear hrun q1 p0
    have q0 := (unhide X2).cell o
    have f0 := (unhide X2).frozen o
    rw [c0] at q0
    go_wp2_with fail
    refine (deleteFunc_any ov L x w.heap.size _ (unhide R2) (unhide HUQ) P2 (fun e => by have := unhide OVL _ e; omega) hL).mono ?_
    rintro e w3 ⟨a, c, rfl, hR, hq, hO⟩
    have X3 := hide ((unhide X2).out hO nb2)
    have M3 := hide ((unhide HM).out hO (fun e => unhide HNE e))
    have R3 := hide hR
    have HQ := hide hq
    have O3 := hide hO
    clear hR hq hO q0 f0
    have q0 := (unhide X3).cell o
    have f0 := (unhide X3).frozen o
    rw [c0] at q0
    go_wp2_with fail
    generalize hU1 : w3.setCell _ _ = V1
    have X4 := (unhide X3).set' hU1
    have R4 := own_set' (unhide R3) hU1 (by rw [unhide HQ]; exact nb2)
    have OU : Out (fun q => q = b) w3 V1 := out_set' (Out.refl _ _) hU1 (.inl rfl)
    have M4 := (unhide M3).out OU (fun e => nb e.symm)
    have OA : Out (fun q => q = b ∨ CMB ov mb q) w V1 := (((Out.ofBelow (unhide hb)).trans (b := W) (unhide HU).undrew (fun q _ e => .inr (.inr e))).trans (unhide O3) (fun q _ e => .inr (.inl e))).trans OU (fun q _ e => .inl e)
    go_end0
    exact ⟨rfl, _, X4, ⟨R4, M4, nodup_without (unhide HUQ), by rw [unhide HQ]; exact unhide HNE, fine_without (unhide HFI)⟩, unhide HQ, OA⟩

def evictCode (D : Dev) (a : Int) : Int := if atOk D.words.length a = true then (if ((look D.flights a).isSome || (look D.over a).isSome) = true then 0 else 4) else 3
def evictDev (D : Dev) (a : Int) : Dev := ⟨D.words.set a.toNat (load D a), without D.flights a, without D.over a⟩

theorem Mem.dropFl {w w' : World} {m : Nat} {wv fo fo' oo : Value} {fm om : Nat} {D : Dev} {L : List (Int × Int)} (h : Mem w m wv fo oo fm om D) (hx : Box w' m [wv, fo', .map (some fm), oo, .map (some om)] 201) (hC : CM w' fo' fm L) (hq : fo'.ownBlock = fo.ownBlock) (ho : Out (fun q => q = m ∨ CMB fo fm q) w w') :
    Mem w' m wv fo' oo fm om ⟨D.words, L, D.over⟩ := by
  have hB : ∀ q, CMB fo' fm q → CMB fo fm q := fun q h => by rcases h with h | h; (exact .inl (by rw [← hq]; exact h)); exact .inr h
  refine ⟨hx, ho.own h.words (fun q hq e => ?_), hC, h.ov.out ho (fun q hq e => ?_), h.s1, fun e => h.s2 (hB _ e), h.s3, fun q h1 e => h.s4 q h1 (hB _ e), h.s5, fun q e => h.s6 q (hB _ e)⟩
  · rcases e with e | e
    · exact h.s1 (by rw [hq, e])
    · exact h.s4 q hq e
  · rcases e with e | e
    · exact h.s3 (by rw [← e]; exact hq)
    · exact h.s6 q e hq
theorem Mem.dropOv {w w' : World} {m : Nat} {wv fo oo oo' : Value} {fm om : Nat} {D : Dev} {L : List (Int × Int)} (h : Mem w m wv fo oo fm om D) (hx : Box w' m [wv, fo, .map (some fm), oo', .map (some om)] 201) (hC : CM w' oo' om L) (hq : oo'.ownBlock = oo.ownBlock) (ho : Out (fun q => q = m ∨ CMB oo om q) w w') :
    Mem w' m wv fo oo' fm om ⟨D.words, D.flights, L⟩ := by
  have hB : ∀ q, CMB oo' om q → CMB oo om q := fun q h => by rcases h with h | h; (exact .inl (by rw [← hq]; exact h)); exact .inr h
  refine ⟨hx, ho.own h.words (fun q hq e => ?_), h.fl.out ho (fun q hq e => ?_), hC, h.s1, h.s2, fun e => h.s3 (hB _ e), h.s4, fun q h1 e => h.s5 q h1 (hB _ e), fun q e h2 => h.s6 q e (hB _ h2)⟩
  · rcases e with e | e
    · exact h.s1 (by rw [hq, e])
    · exact h.s5 q hq e
  · rcases e with e | e
    · exact h.s2 (by rw [← e]; exact hq)
    · exact h.s6 q hq e
theorem Mem.setWord {w W : World} {m g n c : Nat} {fo oo : Value} {fm om : Nat} {D : Dev} {i : Nat} {v : Int} (h : Mem w m (.slice (some ⟨g, 0, none⟩) n c) fo oo fm om D) (hW : w.setCell ⟨g, i, none⟩ (.int .i64 v) = W) :
    Mem W m (.slice (some ⟨g, 0, none⟩) n c) fo oo fm om ⟨D.words.set i v, D.flights, D.over⟩ := by
  have ho : Out (fun q => q = g) w W := out_set' (Out.refl _ _) hW (.inl rfl)
  refine ⟨h.box.out ho (fun e => h.s1 (by rw [e]; rfl)), ?_, h.fl.out ho (fun q hq e => h.s4 g rfl (by rw [← e]; exact hq)), h.ov.out ho (fun q hq e => h.s5 g rfl (by rw [← e]; exact hq)), h.s1, h.s2, h.s3, h.s4, h.s5, h.s6⟩
  subst hW
  have e := intsAt_own h.words
  obtain ⟨a0, c0, e0, -⟩ := e
  injection e0 with e1 e2 e3
  subst e2
  have := (h.words.stored i (.int .i64 v)).1
  rw [nums_set] at this
  show World.ownsRow _ _ _ _ _ (D.words.set i v).length _
  rw [List.length_set]
  exact this

set_option maxRecDepth 20000 in
set_option maxHeartbeats 4000000 in
theorem evict_any (m : Nat) (wv fo oo : Value) (fm om : Nat) (D : Dev) (a : Int) (w : World) (h : Mem w m wv fo oo fm om D) (hs : D.words.length ≤ 328) (n2 : D.flights.length ≤ 10000000) (n3 : D.over.length ≤ 10000000) :
    Calls Try.prog 75 #[.pointer (some ⟨m, 0, none⟩), .int .i64 a] w fun e w' => e = .returned (.int .i64 (evictCode D a)) ∧ (evictCode D a = 0 → Chg m wv fo oo fm om w w' (evictDev D a)) ∧ Out (MemB m wv fo oo fm om) w w' := by
  obtain ⟨aw, cw, ew, -, hIw, -⟩ := intsAt_own h.words
  subst ew
  have c0 := h.box.cell 0
  have c2 := h.box.cell 2
  have c4 := h.box.cell 4
  simp at c0 c2 c4
  have H := hide h
  clear h
  go_enter Try.func75, Try.ntmps75
  go_wp2_with fail
  refine (hasWord_any m _ cw aw a _ c0 (by omega)).mono ?_
  rintro e w1 ⟨rfl, rfl⟩
  cases h1 : atOk D.words.length a
  · have HC : Hid (evictCode D a = 3) := by simp [Hid, evictCode, h1]
    clear h1
    go_wp2_with fail
    go_ret
    exact ⟨ret_int (unhide HC).symm, (fun e => by rw [unhide HC] at e; cases e), Out.refl _ _⟩
  have HA := hide h1
  have hb1 := inB_true.1 (unhide HA)
  have wa : (Lit.int .i64 a).wf = true := wfI (by omega) (by omega)
  obtain ⟨gw, ow, rfl, -, hcw⟩ := hIw.at (k := a.toNat) (by omega)
  have eow : ow = 0 := by
    rcases (unhide H).words.2 with ⟨e, _⟩ | ⟨g, cap, cur, e, _⟩
    · cases e
    · injection e with e; injection e with e; injection e
  subst eow
  have hcv := hcw a.toNat (by omega)
  rw [Nat.zero_add] at hcv
  have hfv := (unhide H).words.frozenAt a.toNat
  generalize D.words[a.toNat]'(by omega) = oldv at *
  have hl0 : 0 ≤ a := by omega
  have hl1 : a < D.words.length := by omega
  clear h1 hcw hIw
  go_wp2_with fail
  refine (has_any m 1 fm D.flights a _ c2 (unhide H).fl.map wa).mono ?_
  rintro e w1 ⟨rfl, rfl⟩
  cases h2 : (look D.flights a).isSome
  · go_wp2_with fail
    refine (has_any m 3 om D.over a _ c4 (unhide H).ov.map wa).mono ?_
    rintro e w1 ⟨rfl, rfl⟩
    cases h3 : (look D.over a).isSome
    · have HC : Hid (evictCode D a = 4) := by simp [Hid, evictCode, unhide HA, h2, h3]
      clear h2 h3 hcv hfv
      go_wp2_with fail
      go_ret
      exact ⟨ret_int (unhide HC).symm, (fun e => by rw [unhide HC] at e; cases e), Out.refl _ _⟩
    have HC : Hid (evictCode D a = 0) := by simp [Hid, evictCode, unhide HA, h3]
    clear h2 h3
    go_wp2_with fail
    have HD : Hid (Mem w1.drew m (.slice (some ⟨gw, 0, none⟩) D.words.length cw) fo oo fm om D) := (unhide H).stay (fun _ _ _ => rfl)
    go_region_with (go_at_call 84; refine (load_any m _ fo oo fm om D a _ (unhide HD) (unhide HA) (by omega)).mono ?_; rintro e w2 ⟨rfl, rfl⟩)
    all_goals
      clear hcv hfv c0 c2 c4
      obtain ⟨V1, hU1, M1, O1⟩ : ∃ V1, V1 = (w1.setCell ⟨gw, a.toNat, none⟩ (.int .i64 (load D a))).drew ∧ Hid (Mem V1 m (.slice (some ⟨gw, 0, none⟩) D.words.length cw) fo oo fm om ⟨D.words.set a.toNat (load D a), D.flights, D.over⟩) ∧ Hid (Out (MemB m (.slice (some ⟨gw, 0, none⟩) D.words.length cw) fo oo fm om) w1 V1) :=
        ⟨_, rfl, ((unhide H).setWord rfl).stay (fun _ _ _ => rfl), outDrew (out_set' (Out.refl _ _) rfl (.inl (.inr (.inl rfl))))⟩
      rw [← hU1]
      clear hU1
      go_wp2_with fail
      refine (drop_any m 1 fm fo _ _ D.flights a _ (unhide M1).box rfl rfl (unhide M1).fl (fun e => (unhide M1).s2 (.inr e)) (fun e => (unhide M1).s2 (.inl e)) n2 (by omega)).mono ?_
      rintro e w3 ⟨rfl, fo', hX, hC, hq, hO⟩
      have M2 := hide ((unhide M1).dropFl hX hC hq hO)
      have O2 := hide ((unhide O1).trans hO (fun q _ e => by rcases e with e | e; (exact .inl e); exact .inr (.inr (.inl e))))
      have HQ2 := hide hq
      clear hX hC hq hO O1 M1
      go_wp2_with fail
      refine (drop_any m 3 om oo _ _ D.over a _ (unhide M2).box rfl rfl (unhide M2).ov (fun e => (unhide M2).s3 (.inr e)) (fun e => (unhide M2).s3 (.inl e)) n3 (by omega)).mono ?_
      rintro e w4 ⟨rfl, oo', hX, hC, hq, hO⟩
      have M3 := hide ((unhide M2).dropOv hX hC hq hO)
      have O3 := hide ((unhide O2).trans hO (fun q _ e => by rcases e with e | e; (exact .inl e); exact .inr (.inr (.inr e))))
      have HQ3 := hide hq
      clear hX hC hq hO O2 M2
      go_wp2_with fail
      go_ret
      refine ⟨ret_int (unhide HC).symm, fun _ => ⟨_, _, _, _, _, unhide M3, fun q hq => .inl ?_⟩, unhide O3⟩
      rcases hq with hq | hq | hq | hq
      · exact .inl hq
      · exact .inr (.inl hq)
      · rcases hq with hq | hq
        · exact .inr (.inr (.inl (.inl (by rw [← unhide HQ2]; exact hq))))
        · exact .inr (.inr (.inl (.inr hq)))
      · rcases hq with hq | hq
        · exact .inr (.inr (.inr (.inl (by rw [← unhide HQ3]; exact hq))))
        · exact .inr (.inr (.inr (.inr hq)))
  · have HC : Hid (evictCode D a = 0) := by simp [Hid, evictCode, unhide HA, h2]
    clear h2
    go_wp2_with fail
    have HD : Hid (Mem w1.drew m (.slice (some ⟨gw, 0, none⟩) D.words.length cw) fo oo fm om D) := (unhide H).stay (fun _ _ _ => rfl)
    go_region_with (go_at_call 84; refine (load_any m _ fo oo fm om D a _ (unhide HD) (unhide HA) (by omega)).mono ?_; rintro e w2 ⟨rfl, rfl⟩)
    all_goals
      clear hcv hfv c0 c2 c4
      obtain ⟨V1, hU1, M1, O1⟩ : ∃ V1, V1 = (w1.setCell ⟨gw, a.toNat, none⟩ (.int .i64 (load D a))).drew ∧ Hid (Mem V1 m (.slice (some ⟨gw, 0, none⟩) D.words.length cw) fo oo fm om ⟨D.words.set a.toNat (load D a), D.flights, D.over⟩) ∧ Hid (Out (MemB m (.slice (some ⟨gw, 0, none⟩) D.words.length cw) fo oo fm om) w1 V1) :=
        ⟨_, rfl, ((unhide H).setWord rfl).stay (fun _ _ _ => rfl), outDrew (out_set' (Out.refl _ _) rfl (.inl (.inr (.inl rfl))))⟩
      rw [← hU1]
      clear hU1
      go_wp2_with fail
      refine (drop_any m 1 fm fo _ _ D.flights a _ (unhide M1).box rfl rfl (unhide M1).fl (fun e => (unhide M1).s2 (.inr e)) (fun e => (unhide M1).s2 (.inl e)) n2 (by omega)).mono ?_
      rintro e w3 ⟨rfl, fo', hX, hC, hq, hO⟩
      have M2 := hide ((unhide M1).dropFl hX hC hq hO)
      have O2 := hide ((unhide O1).trans hO (fun q _ e => by rcases e with e | e; (exact .inl e); exact .inr (.inr (.inl e))))
      have HQ2 := hide hq
      clear hX hC hq hO O1 M1
      go_wp2_with fail
      refine (drop_any m 3 om oo _ _ D.over a _ (unhide M2).box rfl rfl (unhide M2).ov (fun e => (unhide M2).s3 (.inr e)) (fun e => (unhide M2).s3 (.inl e)) n3 (by omega)).mono ?_
      rintro e w4 ⟨rfl, oo', hX, hC, hq, hO⟩
      have M3 := hide ((unhide M2).dropOv hX hC hq hO)
      have O3 := hide ((unhide O2).trans hO (fun q _ e => by rcases e with e | e; (exact .inl e); exact .inr (.inr (.inr e))))
      have HQ3 := hide hq
      clear hX hC hq hO O2 M2
      go_wp2_with fail
      go_ret
      refine ⟨ret_int (unhide HC).symm, fun _ => ⟨_, _, _, _, _, unhide M3, fun q hq => .inl ?_⟩, unhide O3⟩
      rcases hq with hq | hq | hq | hq
      · exact .inl hq
      · exact .inr (.inl hq)
      · rcases hq with hq | hq
        · exact .inr (.inr (.inl (.inl (by rw [← unhide HQ2]; exact hq))))
        · exact .inr (.inr (.inl (.inr hq)))
      · rcases hq with hq | hq
        · exact .inr (.inr (.inr (.inl (by rw [← unhide HQ3]; exact hq))))
        · exact .inr (.inr (.inr (.inr hq)))

set_option maxHeartbeats 2000000 in
theorem changed_evict (a1 a2 a3 : Option Addr) (c1 c2 c3 : Nat) (D D' : Dev) (code : Int) (p0 : Nat) (w : World) (h : DevAt w a1 a2 a3 D) (n1 : D.words.length ≤ 1048576) (n2 : D.flights.length ≤ 1048576) (n3 : D.over.length ≤ 1048576) (m2 : D'.flights.length ≤ 10000000) (m3 : D'.over.length ≤ 10000000)
    (hch : Good D → ∀ w2, Below w.heap.size w w2 → ∀ m wv fo oo fm om, Mem w2 m wv fo oo fm om D → Calls Try.prog 74 #[.pointer (some ⟨m, 0, none⟩), .pointer (some ⟨p0, 0, none⟩)] w2 fun e w3 => e = .returned (.int .i64 code) ∧ (code = 0 → Chg m wv fo oo fm om w2 w3 D') ∧ Out (MemB m wv fo oo fm om) w2 w3) :
    Calls Try.prog 70 #[.agg #[.slice a1 D.words.length c1, .slice a2 D.flights.length c2, .slice a3 D.over.length c3], .func (.func 74) #[] #[.pointer (some ⟨p0, 0, none⟩)]] w fun e w' => ResIs e w.heap.size w' (chgCode D code) (chgDev D code D') ∧ Below w.heap.size w w' := by
  have H := hide h
  have HCH := hide hch
  clear h hch
  go_enter Try.func70, Try.ntmps70
  go_wp2_with fail
  obtain ⟨W, hW, z1, hb, hx, hy⟩ := boxes2 w [.slice a1 D.words.length c1, .slice a2 D.flights.length c2, .slice a3 D.over.length c3] [.int .i64 0, .slice none 0 0, .slice none 0 0, .slice none 0 0] 27 31
  rw [← hW]
  clear hW
  refine (openedDevice_any a1 a2 a3 c1 c2 c3 D _ ((unhide H).below (unhide hb)) n1 n2 n3).mono ?_
  rintro e w2 ⟨hor, hb2⟩
  have z2 : W.heap.size ≤ w2.heap.size := hb2.size
  have B2 := hide (below_step (unhide hb) hb2 (by omega))
  have Y2 := hide ((unhide hy).below hb2)
  have y0 := (unhide Y2).cell 0
  have y1 := (unhide Y2).cell 1
  have y2 := (unhide Y2).cell 2
  have y3 := (unhide Y2).cell 3
  have f0 := (unhide Y2).frozen 0
  have f1 := (unhide Y2).frozen 1
  have f2 := (unhide Y2).frozen 2
  have f3 := (unhide Y2).frozen 3
  simp at y0 y1 y2 y3
  clear hb2 hb hx hy H
  rcases hor with ⟨hg, m, wv, fo, oo, fm, om, rfl, hM, hL⟩ | ⟨hf, rfl⟩
  case inr =>
    have hfb : (devFault D != 0) = true := by simpa using hf
    have HC : Hid (chgCode D code = devFault D ∧ chgDev D code D' = none') := by simp [Hid, chgCode, chgDev, hf]
    clear hf
    go_wp2_with fail
    clear y0 y1 y2 y3 f0 f1 f2 f3
    generalize hU : (((w2.setCell _ _).setCell _ _).setCell _ _).setCell _ _ = U
    obtain ⟨XU, OU⟩ := store4' (unhide Y2) hU
    have t0 := (unhide XU).cell 0
    have t1 := (unhide XU).cell 1
    have t2 := (unhide XU).cell 2
    have t3 := (unhide XU).cell 3
    simp at t0 t1 t2 t3
    refine bodyPost_ret (v := .agg #[.int .i64 (devFault D), .slice none 0 0, .slice none 0 0, .slice none 0 0]) (by simp [results, Try.results70, go_sem, t0, t1, t2, t3]) rfl ⟨⟨_, _, _, by rw [(unhide HC).1], by rw [(unhide HC).2]; exact ownNone _ _⟩, (unhide OU).below (unhide B2) (Nat.le_refl _) (fun q hq e => by omega)⟩
  have HD0 := hide (devFault_good hg)
  have HG := hide hg
  have HM := hide hM
  have HL := hide hL
  clear hg hM hL
  go_wp2_with fail
  refine (unhide HCH (unhide HG) _ (unhide B2) m wv fo oo fm om (unhide HM)).mono ?_
  rintro e w3 ⟨rfl, hC, hO⟩
  have z3 : w2.heap.size ≤ w3.heap.size := hO.size
  have B3 := hide (hO.below (unhide B2) (Nat.le_refl _) (fun q hq e => by have := unhide HL q e; omega))
  have Y3 := hide ((unhide Y2).out hO (fun e => by have := unhide HL _ e; omega))
  clear hO y0 y1 y2 y3 f0 f1 f2 f3 Y2 B2
  have y0 := (unhide Y3).cell 0
  have y1 := (unhide Y3).cell 1
  have y2 := (unhide Y3).cell 2
  have y3 := (unhide Y3).cell 3
  have f0 := (unhide Y3).frozen 0
  have f1 := (unhide Y3).frozen 1
  have f2 := (unhide Y3).frozen 2
  have f3 := (unhide Y3).frozen 3
  simp at y0 y1 y2 y3
  by_cases hc : code = 0
  case neg =>
    have hcb : (code != 0) = true := by simpa using hc
    have HC : Hid (chgCode D code = code ∧ chgDev D code D' = none') := by simp [Hid, chgCode, chgDev, hc, unhide HD0]
    clear hc hC
    go_wp2_with fail
    clear y0 y1 y2 y3 f0 f1 f2 f3
    generalize hU : (((w3.setCell _ _).setCell _ _).setCell _ _).setCell _ _ = U
    obtain ⟨XU, OU⟩ := store4' (unhide Y3) hU
    have t0 := (unhide XU).cell 0
    have t1 := (unhide XU).cell 1
    have t2 := (unhide XU).cell 2
    have t3 := (unhide XU).cell 3
    simp at t0 t1 t2 t3
    refine bodyPost_ret (v := .agg #[.int .i64 code, .slice none 0 0, .slice none 0 0, .slice none 0 0]) (by simp [results, Try.results70, go_sem, t0, t1, t2, t3]) rfl ⟨⟨_, _, _, by rw [(unhide HC).1], by rw [(unhide HC).2]; exact ownNone _ _⟩, (unhide OU).below (unhide B3) (Nat.le_refl _) (fun q hq e => by omega)⟩
  obtain ⟨wv', fo', oo', fm', om', hM', hL'⟩ := hC hc
  have HC : Hid (chgCode D code = 0 ∧ chgDev D code D' = D') := by simp [Hid, chgCode, chgDev, hc, unhide HD0]
  rw [hc]
  clear hc hC
  have HM' := hide hM'
  have HL' : Hid (∀ q, MemB m wv' fo' oo' fm' om' q → W.heap.size ≤ q) := fun q hq => by
    rcases hL' q hq with h | h
    · exact unhide HL q h
    · omega
  clear hM' hL'
  go_wp2_with fail
  refine (device_any m wv' fo' oo' fm' om' D' W.heap.size _ (unhide HM') (unhide HL') (by omega) m2 m3).mono ?_
  rintro e w4 ⟨⟨s1, d1, s2, d2, s3, d3, rfl, hOD⟩, hb4⟩
  have z4 : w3.heap.size ≤ w4.heap.size := hb4.size
  have B4 := hide (below_step (unhide B3) hb4 (by omega))
  have Y4 := hide ((unhide Y3).below hb4)
  have OD := hide hOD
  clear hb4 hOD y0 y1 y2 y3 f0 f1 f2 f3 B3 Y3
  have y0 := (unhide Y4).cell 0
  have y1 := (unhide Y4).cell 1
  have y2 := (unhide Y4).cell 2
  have y3 := (unhide Y4).cell 3
  have f0 := (unhide Y4).frozen 0
  have f1 := (unhide Y4).frozen 1
  have f2 := (unhide Y4).frozen 2
  have f3 := (unhide Y4).frozen 3
  simp at y0 y1 y2 y3
  go_wp2_with fail
  clear y0 y1 y2 y3 f0 f1 f2 f3
  generalize hU : (((w4.setCell _ _).setCell _ _).setCell _ _).setCell _ _ = U
  obtain ⟨XU, OU⟩ := store4' (unhide Y4) hU
  have t0 := (unhide XU).cell 0
  have t1 := (unhide XU).cell 1
  have t2 := (unhide XU).cell 2
  have t3 := (unhide XU).cell 3
  simp at t0 t1 t2 t3
  have OD4 := (unhide OD).out (unhide OU) (fun q hq e => by have := ((unhide OD).lt hq).1; omega)
  have OD5 : OwnDev U w.heap.size (.slice s1 D'.words.length d1) (.slice s2 D'.flights.length d2) (.slice s3 D'.over.length d3) D' := ⟨own_base OD4.o1 (fun q hq => by have := (OD4.lt (.inl hq)).1; omega), own_base OD4.o2 (fun q hq => by have := (OD4.lt (.inr (.inl hq))).1; omega), own_base OD4.o3 (fun q hq => by have := (OD4.lt (.inr (.inr hq))).1; omega), OD4.n12, OD4.n13, OD4.n23⟩
  refine bodyPost_ret (v := .agg #[.int .i64 0, .slice s1 D'.words.length d1, .slice s2 D'.flights.length d2, .slice s3 D'.over.length d3]) (by simp [results, Try.results70, go_sem, t0, t1, t2, t3]) rfl ⟨⟨_, _, _, by rw [(unhide HC).1], by rw [(unhide HC).2]; exact OD5⟩, (unhide OU).below (unhide B4) (Nat.le_refl _) (fun q hq e => by omega)⟩

set_option maxHeartbeats 1000000 in
theorem evictFn_any (m : Nat) (wv fo oo : Value) (fm om : Nat) (D : Dev) (a : Int) (p0 : Nat) (w : World) (h : Mem w m wv fo oo fm om D) (hs : D.words.length ≤ 328) (n2 : D.flights.length ≤ 10000000) (n3 : D.over.length ≤ 10000000) (h0 : w.cell? ⟨p0, 0, none⟩ = some (.int .i64 a)) :
    Calls Try.prog 74 #[.pointer (some ⟨m, 0, none⟩), .pointer (some ⟨p0, 0, none⟩)] w fun e w' => e = .returned (.int .i64 (evictCode D a)) ∧ (evictCode D a = 0 → Chg m wv fo oo fm om w w' (evictDev D a)) ∧ Out (MemB m wv fo oo fm om) w w' := by
  have H := hide h
  clear h
  go_enter Try.func74, Try.ntmps74
  go_wp2_with fail
  refine (evict_any m wv fo oo fm om D a _ (unhide H) hs n2 n3).mono ?_
  rintro e w2 ⟨rfl, hC, hO⟩
  have HC := hide hC
  have HO := hide hO
  clear hC hO
  generalize hk : evictCode D a = k at *
  have HK := hide hk
  clear hk
  go_wp2_with fail
  go_ret
  exact ⟨ret_int (unhide HK).symm, fun e => unhide HC (by rw [← unhide HK]; exact e), unhide HO⟩
theorem without_len (l : List (Int × Int)) (a : Int) : (without l a).length ≤ l.length := List.length_filter_le _ _

set_option maxHeartbeats 2000000 in
theorem implEvictWord_any (a1 a2 a3 : Option Addr) (c1 c2 c3 : Nat) (D : Dev) (a : Int) (w : World) (h : DevAt w a1 a2 a3 D) (n1 : D.words.length ≤ 1048576) (n2 : D.flights.length ≤ 1048576) (n3 : D.over.length ≤ 1048576) :
    Calls Try.prog 15 #[.agg #[.slice a1 D.words.length c1, .slice a2 D.flights.length c2, .slice a3 D.over.length c3], .int .i64 a] w fun e w' => ResIs e w.heap.size w' (chgCode D (evictCode D a)) (chgDev D (evictCode D a) (evictDev D a)) ∧ Below w.heap.size w w' := by
  have hmf : ∀ (fn : Fn) (first cap : Array Value) (w : World), (Instr.makeFunc fn first cap).run Try.prog w = .ok (.func fn first cap) w := fun _ _ _ _ => rfl
  have H := hide h
  clear h
  go_enter Try.func15, Try.ntmps15
  go_wp2_with fail
  obtain ⟨W, hW, z1, hb, hx, hp, hy⟩ := boxes3 w [.slice a1 D.words.length c1, .slice a2 D.flights.length c2, .slice a3 D.over.length c3] [.int .i64 a] [.int .i64 0, .slice none 0 0, .slice none 0 0, .slice none 0 0] 27 2 31
  rw [← hW]
  clear hW
  have hl2 := without_len D.flights a
  have hl3 := without_len D.over a
  refine (changed_evict a1 a2 a3 c1 c2 c3 D (evictDev D a) (evictCode D a) _ _ ((unhide H).below (unhide hb)) n1 n2 n3 (by show (without D.flights a).length ≤ _; omega) (by show (without D.over a).length ≤ _; omega) (fun hg w2 hb2 m wv fo oo fm om hM => evictFn_any m wv fo oo fm om D a _ w2 hM hg.small.1 (by omega) (by omega) (((unhide hp).below hb2).cell 0))).mono ?_
  rintro e w2 ⟨⟨v1, v2, v3, rfl, hOD⟩, hb2⟩
  obtain ⟨s1, d1, s2, d2, s3, d3, e1, e2, e3, -⟩ := hOD.form
  subst e1 e2 e3
  have z2 : W.heap.size ≤ w2.heap.size := hb2.size
  have B2 := hide (below_step (unhide hb) hb2 (by omega))
  have Y2 := hide ((unhide hy).below hb2)
  have OD := hide hOD
  have y0 := (unhide Y2).cell 0
  have y1 := (unhide Y2).cell 1
  have y2 := (unhide Y2).cell 2
  have y3 := (unhide Y2).cell 3
  have f0 := (unhide Y2).frozen 0
  have f1 := (unhide Y2).frozen 1
  have f2 := (unhide Y2).frozen 2
  have f3 := (unhide Y2).frozen 3
  simp at y0 y1 y2 y3
  clear hb2 hOD hb hx hp hy hl2 hl3
  go_wp2_with fail
  clear y0 y1 y2 y3 f0 f1 f2 f3
  generalize hU : (((w2.setCell _ _).setCell _ _).setCell _ _).setCell _ _ = U
  obtain ⟨XU, OU⟩ := store4' (unhide Y2) hU
  have t0 := (unhide XU).cell 0
  have t1 := (unhide XU).cell 1
  have t2 := (unhide XU).cell 2
  have t3 := (unhide XU).cell 3
  simp at t0 t1 t2 t3
  have OD4 := (unhide OD).out (unhide OU) (fun q hq e => by have := ((unhide OD).lt hq).1; omega)
  have OD5 := OD4.base (base' := w.heap.size) (by omega)
  refine bodyPost_ret (by simp [results, Try.results15, go_sem, t0, t1, t2, t3]) rfl ⟨⟨_, _, _, rfl, OD5⟩, (unhide OU).below (unhide B2) (Nat.le_refl _) (fun q hq e => by omega)⟩
end Go.Proofs.Ytdnfadbkpajloaa
