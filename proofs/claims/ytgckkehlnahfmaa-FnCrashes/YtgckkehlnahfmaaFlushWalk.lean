/-
  A line is flushed, as the program does it.
-/
import Derived.Test.YtgckkehlnahfmaaEvictWalk
namespace Go.Proofs.Ytgckkehlnahfmaa
open Go.RowKit
set_option linter.unusedVariables false

def flushCode (D : Dev) (line : Int) : Int := if sizeOkL D.words.length line = true then 0 else 3
def flushDev (D : Dev) (line : Int) : Dev := ⟨D.words, flushF D.flights D.over line, flushO D.over line⟩

theorem flushF_take {l : List (Int × Int)} {k : Nat} (hk : k < l.length) (F : List (Int × Int)) (line : Int) : flushF F (l.take (k + 1)) line = if inLine line l[k] = true then setC (flushF F (l.take k) line) (l[k].1, l[k].2) else flushF F (l.take k) line := by
  rw [List.take_succ_eq_append_getElem hk, flushF, List.filter_append]
  by_cases h : inLine line l[k] = true
  · simp [h, List.foldl_append, flushF]
  · simp [h, flushF]
theorem flushO_take {l : List (Int × Int)} {k : Nat} (hk : k < l.length) (line : Int) : flushO (l.take (k + 1)) line = flushO (l.take k) line ++ (if inLine line l[k] = true then [] else [l[k]]) := by
  rw [List.take_succ_eq_append_getElem hk, flushO, List.filter_append]
  by_cases h : inLine line l[k] = true
  · simp [h, flushO]
  · simp [h, flushO]
/-- What is over while the first k were asked. -/
def overK (l : List (Int × Int)) (line : Int) (k : Nat) : List (Int × Int) := flushO (l.take k) line ++ l.drop k
theorem overK_stay {l : List (Int × Int)} {k : Nat} (hk : k < l.length) {line : Int} (h : inLine line l[k] = false) : overK l line (k + 1) = overK l line k := by
  rw [overK, overK, flushO_take hk, h, List.drop_eq_getElem_cons hk]
  simp
theorem overK_drop {l : List (Int × Int)} (hu : (keys l).Nodup) {k : Nat} (hk : k < l.length) {line : Int} (h : inLine line l[k] = true) : without (overK l line k) l[k].1 = overK l line (k + 1) := by
  have hne : ∀ j (hj : j < l.length), j ≠ k → l[j].1 ≠ l[k].1 := by
    intro j hj hjk e
    have hkl : (keys l).length = l.length := by simp [keys]
    have e1 : ∀ i (hi : i < l.length), (keys l)[i]'(by rw [hkl]; exact hi) = l[i].1 := fun i hi => by simp [keys]
    rcases Nat.lt_or_gt_of_ne hjk with h | h
    · exact (List.pairwise_iff_getElem.1 hu) j k (by rw [hkl]; exact hj) (by rw [hkl]; exact hk) h (by rw [e1 j hj, e1 k hk]; exact e)
    · exact (List.pairwise_iff_getElem.1 hu) k j (by rw [hkl]; exact hk) (by rw [hkl]; exact hj) h (by rw [e1 j hj, e1 k hk]; exact e.symm)
  rw [overK, overK, flushO_take hk, h, if_pos rfl, List.append_nil, List.drop_eq_getElem_cons hk, without, List.filter_append, List.filter_cons_of_neg (by simp)]
  congr 1
  · rw [List.filter_eq_self]
    intro c hc
    obtain ⟨j, hj, rfl⟩ := List.getElem_of_mem (List.mem_filter.1 hc).1
    have hj' : j < k := by rw [List.length_take] at hj; omega
    have := hne j (by omega) (by omega)
    simpa using this
  · rw [List.filter_eq_self]
    intro c hc
    obtain ⟨j, hj, rfl⟩ := List.getElem_of_mem hc
    rw [List.length_drop] at hj
    have := hne (k + 1 + j) (by omega) (by omega)
    simpa using this
theorem inLine_eq {line A V : Int} (h : 0 ≤ A) : (A.tdiv 8 == line) = inLine line (A, V) := by
  rw [inLine, Int.tdiv_eq_ediv_of_nonneg h]

set_option maxHeartbeats 1000000 in
theorem hasLine_any (m n c : Nat) (a : Option Addr) (x : Int) (w : World) (hc : w.cell? ⟨m, 0, none⟩ = some (.slice a n c)) (hn : n ≤ 1048576) :
    Calls Try.prog 87 #[.pointer (some ⟨m, 0, none⟩), .int .i64 x] w fun e w' => e = .returned (.bool (sizeOkL n x)) ∧ w' = w := by
  have htd : (n : Int).tdiv 8 = (n : Int) / 8 := Int.tdiv_eq_ediv_of_nonneg (by omega)
  go_enter Try.func87, Try.ntmps87
  go_wp2_with fail
  refine (isWithin_any _ 0 _ _).mono ?_
  rintro e w1 ⟨rfl, rfl⟩
  try rw [htd]
  have HR : Hid (sizeOkL n x = inB x 0 ((n : Int) / 8 - 1)) := rfl
  clear htd
  generalize inB x 0 ((n : Int) / 8 - 1) = r at *
  go_wp2_with fail
  go_ret
  exact ⟨ret_bool (unhide HR).symm, rfl⟩

theorem Mem.putFl {w w' : World} {m : Nat} {wv fo fo' oo : Value} {fm om : Nat} {D : Dev} {L : List (Int × Int)} (h : Mem w m wv fo oo fm om D) (hx : Box w' m [wv, fo', .map (some fm), oo, .map (some om)] 98) (hC : CM w' fo' fm L) (hq : fo'.ownBlock = fo.ownBlock ∨ ∃ q, fo'.ownBlock = some q ∧ w.heap.size ≤ q) (ho : Out (fun q => q = m ∨ CMB fo fm q) w w') :
    Mem w' m wv fo' oo fm om ⟨D.words, L, D.over⟩ := by
  have hB : ∀ q, CMB fo' fm q → CMB fo fm q ∨ w.heap.size ≤ q := fun q h => by
    rcases h with h | h
    · rcases hq with hq | ⟨q', hq, h2⟩
      · exact .inl (.inl (by rw [← hq]; exact h))
      · rw [h] at hq; injection hq with hq; subst hq; exact .inr h2
    · exact .inl (.inr h)
  refine ⟨hx, ho.own h.words (fun q hq e => ?_), hC, h.ov.out ho (fun q hq e => ?_), h.s1, fun e => ?_, h.s3, fun q h1 e => ?_, h.s5, fun q e h2 => ?_⟩
  · rcases e with e | e
    · exact h.s1 (by rw [hq, e])
    · exact h.s4 q hq e
  · rcases e with e | e
    · exact h.s3 (by rw [← e]; exact hq)
    · exact h.s6 q e hq
  · rcases hB _ e with e | e
    · exact h.s2 e
    · have := h.box.lt; omega
  · rcases hB _ e with e | e
    · exact h.s4 q h1 e
    · have := (h.words.lt q h1).2; omega
  · rcases hB _ e with e | e
    · exact h.s6 q e h2
    · have := h.ov.lt h2; omega

theorem flushF_len (F l : List (Int × Int)) (line : Int) : (flushF F l line).length ≤ F.length + l.length := by
  unfold flushF
  have h1 : ∀ (l F : List (Int × Int)), (l.foldl setC F).length ≤ F.length + l.length := by
    intro l
    induction l with
    | nil => intro F; simp
    | cons c l ih =>
      intro F
      have := ih (setC F c)
      have h2 : (setC F c).length ≤ F.length + 1 := by
        cases hk : (look F c.1).isSome
        · rw [setC_length_none (c := c) (by simpa using hk)]; exact Nat.le_refl _
        · rw [setC_length_some (c := c) hk]; omega
      simp only [List.foldl_cons, List.length_cons]
      omega
  have := h1 (l.filter (inLine line)) F
  have := List.length_filter_le (inLine line) l
  omega
theorem flush_old {m : Nat} {wv fo fo' oo : Value} {fm om z : Nat} (hF : fo'.ownBlock = fo.ownBlock ∨ ∃ q, fo'.ownBlock = some q ∧ z ≤ q) (q : Nat) (hq : q < z) (e : q = m ∨ CMB fo' fm q) : MemB m wv fo oo fm om q := by
  rcases e with e | e | e
  · exact .inl e
  · rcases hF with h | ⟨q', h, h2⟩
    · exact .inr (.inr (.inl (.inl (by rw [← h]; exact e))))
    · rw [e] at h; injection h with h; omega
  · exact .inr (.inr (.inl (.inr e)))
theorem flush_sep {m : Nat} {wv fo fo' oo v : Value} {fm om z0 z1 : Nat} (hL : ∀ q, v.ownBlock = some q → z0 ≤ q ∧ q < z1) (hM : ∀ q, MemB m wv fo oo fm om q → q < z0) (hF : fo'.ownBlock = fo.ownBlock ∨ ∃ q, fo'.ownBlock = some q ∧ z1 ≤ q) (q : Nat) (hq : v.ownBlock = some q) (e : q = m ∨ CMB fo' fm q) : False := by
  have h1 := hL q hq
  have h2 := hM q (flush_old hF q h1.2 e)
  omega

theorem flush_old2 {m : Nat} {wv fo oo oo' : Value} {fm om : Nat} (hO : oo'.ownBlock = oo.ownBlock) (q : Nat) (e : q = m ∨ CMB oo' om q) : MemB m wv fo oo fm om q := by
  rcases e with e | e | e
  · exact .inl e
  · exact .inr (.inr (.inr (.inl (by rw [← hO]; exact e))))
  · exact .inr (.inr (.inr (.inr e)))
theorem flush_sep2 {m : Nat} {wv fo oo oo' v : Value} {fm om z0 z1 : Nat} (hL : ∀ q, v.ownBlock = some q → z0 ≤ q ∧ q < z1) (hM : ∀ q, MemB m wv fo oo fm om q → q < z0) (hO : oo'.ownBlock = oo.ownBlock) (q : Nat) (hq : v.ownBlock = some q) (e : q = m ∨ CMB oo' om q) : False := by
  have h1 := hL q hq
  have h2 := hM q (flush_old2 hO q e)
  omega
set_option maxRecDepth 20000 in
set_option maxHeartbeats 4000000 in
theorem flush_any (m : Nat) (wv fo oo : Value) (fm om : Nat) (D : Dev) (line : Int) (w : World) (h : Mem w m wv fo oo fm om D) (hg : Good D) (n2 : D.flights.length ≤ 1100000) (n3 : D.over.length ≤ 1100000) :
    Calls Try.prog 54 #[.pointer (some ⟨m, 0, none⟩), .int .i64 line] w fun e w' => e = .returned (.int .i64 (flushCode D line)) ∧ (flushCode D line = 0 → Chg m wv fo oo fm om w w' (flushDev D line)) ∧ Out (MemB m wv fo oo fm om) w w' := by
  obtain ⟨aw, cw, ew, -⟩ := intsAt_own h.words
  subst ew
  have hsz := hg.small
  have c0 := h.box.cell 0
  simp at c0
  have H := hide h
  have HG := hide hg
  clear h hg
  go_enter Try.func54, Try.ntmps54
  go_wp2_with fail
  refine (hasLine_any m _ cw aw line _ c0 (by omega)).mono ?_
  rintro e w0 ⟨rfl, rfl⟩
  cases h1 : sizeOkL D.words.length line
  · have HC : Hid (flushCode D line = 3) := by simp [Hid, flushCode, h1]
    clear h1
    go_wp2_with fail
    go_ret
    exact ⟨ret_int (unhide HC).symm, (fun e => by rw [unhide HC] at e; cases e), Out.refl _ _⟩
  have HC : Hid (flushCode D line = 0) := by simp [Hid, flushCode, h1]
  clear h1 c0
  go_wp2_with fail
  refine (list_any m 3 om oo D.over _ ((unhide H).box.cell 3) ((unhide H).box.cell 4) (unhide H).ov (by omega)).mono ?_
  rintro e w1 ⟨⟨a, c, rfl, hOw⟩, hb1⟩
  have z1 : w0.heap.size ≤ w1.heap.size := hb1.size
  have B1 := hide hb1
  have HL := hide hOw
  have HLB := hide (fun q hq => hOw.lt q hq)
  have HM0 := hide ((unhide H).below hb1)
  have HMB := hide (fun q hq => Mem.lt (q := q) (unhide H) hq)
  clear hOw hb1
  go_wp2_with fail
  go_loopw [16] (fun i wr => ∃ (k : Nat) (fo' oo' : Value), k ≤ D.over.length ∧ i = .int .i64 k ∧ Hid (Mem wr m (.slice aw D.words.length cw) fo' oo' fm om ⟨D.words, flushF D.flights (D.over.take k) line, overK D.over line k⟩) ∧ Hid (wr.ownsRow w0.heap.size 47 2 (.slice a D.over.length c) D.over.length (prs D.over)) ∧ Hid (fo'.ownBlock = fo.ownBlock ∨ ∃ q, fo'.ownBlock = some q ∧ w1.heap.size ≤ q) ∧ Hid (oo'.ownBlock = oo.ownBlock) ∧ Hid (Out (MemB m (.slice aw D.words.length cw) fo oo fm om) w1 wr)) (fun i _ => D.over.length - (intOf i).toNat)
  case atStart => exact ⟨0, fo, oo, Nat.zero_le _, rfl, HM0, HL, .inl rfl, rfl, Out.refl _ _⟩
  case round =>
    obtain ⟨k, fo', oo', hk, rfl, HM, HLr, HF, HO, HU⟩ := hrel
    have zr : w1.heap.size ≤ wr.heap.size := (unhide HU).size
    by_cases hlt : k < D.over.length
    · obtain ⟨a0, c0, e0, -, hP, -⟩ := pairsAt_own (unhide HLr)
      injection e0 with e1 e2 e3
      subst e1 e3
      obtain ⟨b, o, rfl, lb, hc⟩ := hP.at hlt
      have hca := (hc k hlt).1
      have hcb := (hc k hlt).2
      have hfin := (unhide H).ov.fine D.over[k] (List.getElem_mem hlt)
      have hFt := flushF_take hlt D.flights line
      have hOs := fun h => overK_stay hlt (line := line) h
      have hOd := fun h => overK_drop (unhide HG).uo hlt (line := line) h
      have hin : (D.over[k].1.tdiv 8 == line) = inLine line D.over[k] := inLine_eq (V := D.over[k].2) hfin.1
      have hkb : k < (overK D.over line k).length + k := by rw [overK, List.length_append, List.length_drop]; omega
      have hlb : (overK D.over line k).length ≤ D.over.length := by rw [overK, List.length_append, List.length_drop]; have := List.length_filter_le (fun c => !inLine line c) (D.over.take k); rw [List.length_take] at this; unfold flushO; omega
      clear hc hP e2 hkb
      have hw64 : -9223372036854775808 ≤ D.over[k].1.tdiv 8 ∧ D.over[k].1.tdiv 8 ≤ 9223372036854775807 := by rw [Int.tdiv_eq_ediv_of_nonneg hfin.1]; omega
      generalize hA : D.over[k].1 = A at *
      generalize hV : D.over[k].2 = V at *
      have BA := hide ((Below.refl _ wr).alloc (Nat.le_refl _) (.cells #[.int .i64 A, .int .i64 V] 47))
      cases hI : inLine line D.over[k]
      · rw [hI] at hin hFt
        have hOs' := hOs hI
        have HEQ : Hid (flushF D.flights (D.over.take (k + 1)) line = flushF D.flights (D.over.take k) line ∧ overK D.over line (k + 1) = overK D.over line k) := ⟨by simpa using hFt, hOs'⟩
        clear hFt hOs hOd hI hOs' hlb
        have M2 := hide ((unhide HM).below (unhide BA))
        have L2 := hide (own_below (unhide HLr) (unhide BA))
        have U2 := hide ((unhide HU).trans (Out.ofBelow (unhide BA)) (fun _ _ h => h))
        clear HM HLr HU BA
        go_wp2_with fail
        go_roundw
        case rel => exact ⟨k + 1, fo', oo', by omega, by go_num, by rw [(unhide HEQ).1, (unhide HEQ).2]; exact M2, L2, HF, HO, U2⟩
        case measure => simp [intOf]; omega
      · rw [hI] at hin hFt
        have HEQ : Hid (flushF D.flights (D.over.take (k + 1)) line = setC (flushF D.flights (D.over.take k) line) (A, V) ∧ without (overK D.over line k) A = overK D.over line (k + 1)) := ⟨by simpa using hFt, hOd hI⟩
        have hlf : (flushF D.flights (D.over.take k) line).length ≤ 5000000 := by have := flushF_len D.flights (D.over.take k) line; rw [List.length_take] at this; omega
        clear hFt hOs hOd hI BA
        go_wp2_with fail
        obtain ⟨W, hW, z2, hb, hx⟩ := boxes1 wr [.int .i64 A, .int .i64 V] 47
        rw [← hW]
        clear hW
        have M2 : Hid (Mem W.drew m (.slice aw D.words.length cw) fo' oo' fm om ⟨D.words, flushF D.flights (D.over.take k) line, overK D.over line k⟩) := ((unhide HM).below (unhide hb)).stay (fun _ _ _ => rfl)
        have L2 : Hid (W.drew.ownsRow w0.heap.size 47 2 (.slice (some ⟨b, o, none⟩) D.over.length c) D.over.length (prs D.over)) := own_below (unhide HLr) (unhide hb).drew
        have U2 : Hid (Out (MemB m (.slice aw D.words.length cw) fo oo fm om) w1 W.drew) := outDrew ((unhide HU).trans (Out.ofBelow (unhide hb)) (fun _ _ h => h))
        have hmr := fun q hq => Mem.lt (q := q) (unhide HM) hq
        have XB : Hid (Box W.drew wr.heap.size [.int .i64 A, .int .i64 V] 47) := unhide hx
        have p0 := (unhide hx).cell 0
        have p1 := (unhide hx).cell 1
        simp at p0 p1
        have HMR := hide hmr
        clear hmr hx hb HM HLr HU hca hcb hin hw64
        generalize hLF : flushF D.flights (D.over.take k) line = LF at *
        generalize hLO : overK D.over line k = LO at *
        clear hLF hLO
        go_region_with (go_at_call 80; refine (put_any m 1 fm fo' _ _ LF A V _ (unhide M2).box rfl rfl (unhide M2).fl (fun e => (unhide M2).s2 (.inr e)) (fun e => (unhide M2).s2 (.inl e)) (by omega) (by omega)).mono ?_; rintro e w3 ⟨rfl, fo2, hX, hC, hq, hO⟩; have M3 := hide ((unhide M2).putFl hX hC hq hO); have X3 := hide ((unhide XB).out hO (fun e => by have := unhide HMR wr.heap.size (by rcases e with e | e; (exact .inl e); exact .inr (.inr (.inl e))); omega)); have HF3 : Hid (fo2.ownBlock = fo.ownBlock ∨ ∃ q, fo2.ownBlock = some q ∧ w1.heap.size ≤ q) := (by rcases hq with hq | ⟨q, hq, h2⟩; (· rw [hq]; exact unhide HF); exact .inr ⟨q, hq, Nat.le_trans (unhide U2).size h2⟩); have L3 := hide (hO.own (unhide L2) (fun q hq e => flush_sep (unhide HLB) (unhide HMB) (unhide HF) q hq e)); have U3 := hide ((unhide U2).trans hO (fun q hq e => flush_old (unhide HF) q hq e)); clear hX hC hq hO)
        all_goals
          have p0b := (unhide X3).cell 0
          simp at p0b
          clear p0 p1 M2 L2 U2 XB
          have M3d : Hid (Mem w3.drew m (.slice aw D.words.length cw) fo2 oo' fm om ⟨D.words, setC LF (A, V), LO⟩) := (unhide M3).stay (fun _ _ _ => rfl)
          go_wp2_with fail
          go_region_with (go_at_call 89; refine (drop_any m 3 om oo' _ _ LO A _ (unhide M3d).box rfl rfl (unhide M3d).ov (fun e => (unhide M3d).s3 (.inr e)) (fun e => (unhide M3d).s3 (.inl e)) (by omega) (by omega)).mono ?_; rintro e w4 ⟨rfl, oo2, hX, hC, hq, hO⟩; have M4 := hide ((unhide M3d).dropOv hX hC hq hO); have HO4 : Hid (oo2.ownBlock = oo.ownBlock) := hq.trans (unhide HO); have L4 := hide (hO.undrew.own (unhide L3) (fun q hq e => flush_sep2 (unhide HLB) (unhide HMB) (unhide HO) q hq e)); have U4 := hide ((unhide U3).trans hO.undrew (fun q hq e => flush_old2 (unhide HO) q e)); clear hX hC hq hO)
          all_goals
            clear p0b M3 M3d L3 U3 X3
            rw [(unhide HEQ).2, ← (unhide HEQ).1] at M4
            go_wp2_with fail
            go_roundw
            case rel => exact ⟨k + 1, fo2, oo2, by omega, by go_num, M4, L4, HF3, HO4, U4⟩
            case measure => simp [intOf]; omega
    · have hke : k = D.over.length := by omega
      subst hke
      have HE : Hid (overK D.over line D.over.length = flushO D.over line ∧ flushF D.flights (D.over.take D.over.length) line = flushF D.flights D.over line) := ⟨by simp [overK], by rw [List.take_length]⟩
      rw [(unhide HE).1, (unhide HE).2] at HM
      clear HE
      go_wp2_with fail
      go_ret
      refine ⟨ret_int (unhide HC).symm, fun _ => ⟨_, _, _, _, _, unhide HM, fun q hq => ?_⟩, (Out.ofBelow (unhide B1)).trans (unhide HU) (fun _ _ h => h)⟩
      rcases hq with hq | hq | hq | hq
      · exact .inl (.inl hq)
      · exact .inl (.inr (.inl hq))
      · rcases hq with hq | hq
        · rcases unhide HF with h | ⟨q', h, h2⟩
          · exact .inl (.inr (.inr (.inl (.inl (by rw [← h]; exact hq)))))
          · rw [hq] at h; injection h with h; exact .inr (by omega)
        · exact .inl (.inr (.inr (.inl (.inr hq))))
      · rcases hq with hq | hq
        · exact .inl (.inr (.inr (.inr (.inl (by rw [← unhide HO]; exact hq)))))
        · exact .inl (.inr (.inr (.inr (.inr hq))))
set_option maxHeartbeats 2000000 in
theorem changed_flush (a1 a2 a3 : Option Addr) (c1 c2 c3 : Nat) (D D' : Dev) (code : Int) (p0 : Nat) (w : World) (h : DevAt w a1 a2 a3 D) (n1 : D.words.length ≤ 1048576) (n2 : D.flights.length ≤ 1048576) (n3 : D.over.length ≤ 1048576) (m2 : D'.flights.length ≤ 10000000) (m3 : D'.over.length ≤ 10000000)
    (hch : Good D → ∀ w2, Below w.heap.size w w2 → ∀ m wv fo oo fm om, Mem w2 m wv fo oo fm om D → Calls Try.prog 53 #[.pointer (some ⟨m, 0, none⟩), .pointer (some ⟨p0, 0, none⟩)] w2 fun e w3 => e = .returned (.int .i64 code) ∧ (code = 0 → Chg m wv fo oo fm om w2 w3 D') ∧ Out (MemB m wv fo oo fm om) w2 w3) :
    Calls Try.prog 40 #[.agg #[.slice a1 D.words.length c1, .slice a2 D.flights.length c2, .slice a3 D.over.length c3], .func (.func 53) #[] #[.pointer (some ⟨p0, 0, none⟩)]] w fun e w' => ResIs e w.heap.size w' (chgCode D code) (chgDev D code D') ∧ Below w.heap.size w w' := by
  have H := hide h
  have HCH := hide hch
  clear h hch
  go_enter Try.func40, Try.ntmps40
  go_wp2_with fail
  obtain ⟨W, hW, z1, hb, hx, hy⟩ := boxes2 w [.slice a1 D.words.length c1, .slice a2 D.flights.length c2, .slice a3 D.over.length c3] [.int .i64 0, .slice none 0 0, .slice none 0 0, .slice none 0 0] 27 31
  rw [← hW]
  clear hW
  refine (openedDevice_any a1 a2 a3 c1 c2 c3 D _ ((unhide H).below (unhide hb)) n1 n2 n3).mono ?_
  rintro e w2 ⟨hor, hb2⟩
  have z2 : W.heap.size ≤ w2.heap.size := hb2.size
  have B2 := hide (below_step (unhide hb) hb2 (by omega))
  have Y2 := hide ((unhide hy).below hb2)
  have y0 := (unhide Y2).cell 0
  have y1 := (unhide Y2).cell 1
  have y2 := (unhide Y2).cell 2
  have y3 := (unhide Y2).cell 3
  have f0 := (unhide Y2).frozen 0
  have f1 := (unhide Y2).frozen 1
  have f2 := (unhide Y2).frozen 2
  have f3 := (unhide Y2).frozen 3
  simp at y0 y1 y2 y3
  clear hb2 hb hx hy H
  rcases hor with ⟨hg, m, wv, fo, oo, fm, om, rfl, hM, hL⟩ | ⟨hf, rfl⟩
  case inr =>
    have hfb : (devFault D != 0) = true := by simpa using hf
    have HC : Hid (chgCode D code = devFault D ∧ chgDev D code D' = none') := by simp [Hid, chgCode, chgDev, hf]
    clear hf
    go_wp2_with fail
    clear y0 y1 y2 y3 f0 f1 f2 f3
    generalize hU : (((w2.setCell _ _).setCell _ _).setCell _ _).setCell _ _ = U
    obtain ⟨XU, OU⟩ := store4' (unhide Y2) hU
    have t0 := (unhide XU).cell 0
    have t1 := (unhide XU).cell 1
    have t2 := (unhide XU).cell 2
    have t3 := (unhide XU).cell 3
    simp at t0 t1 t2 t3
    refine bodyPost_ret (v := .agg #[.int .i64 (devFault D), .slice none 0 0, .slice none 0 0, .slice none 0 0]) (by simp [results, Try.results40, go_sem, t0, t1, t2, t3]) rfl ⟨⟨_, _, _, by rw [(unhide HC).1], by rw [(unhide HC).2]; exact ownNone _ _⟩, (unhide OU).below (unhide B2) (Nat.le_refl _) (fun q hq e => by omega)⟩
  have HD0 := hide (devFault_good hg)
  have HG := hide hg
  have HM := hide hM
  have HL := hide hL
  clear hg hM hL
  go_wp2_with fail
  refine (unhide HCH (unhide HG) _ (unhide B2) m wv fo oo fm om (unhide HM)).mono ?_
  rintro e w3 ⟨rfl, hC, hO⟩
  have z3 : w2.heap.size ≤ w3.heap.size := hO.size
  have B3 := hide (hO.below (unhide B2) (Nat.le_refl _) (fun q hq e => by have := unhide HL q e; omega))
  have Y3 := hide ((unhide Y2).out hO (fun e => by have := unhide HL _ e; omega))
  clear hO y0 y1 y2 y3 f0 f1 f2 f3 Y2 B2
  have y0 := (unhide Y3).cell 0
  have y1 := (unhide Y3).cell 1
  have y2 := (unhide Y3).cell 2
  have y3 := (unhide Y3).cell 3
  have f0 := (unhide Y3).frozen 0
  have f1 := (unhide Y3).frozen 1
  have f2 := (unhide Y3).frozen 2
  have f3 := (unhide Y3).frozen 3
  simp at y0 y1 y2 y3
  by_cases hc : code = 0
  case neg =>
    have hcb : (code != 0) = true := by simpa using hc
    have HC : Hid (chgCode D code = code ∧ chgDev D code D' = none') := by simp [Hid, chgCode, chgDev, hc, unhide HD0]
    clear hc hC
    go_wp2_with fail
    clear y0 y1 y2 y3 f0 f1 f2 f3
    generalize hU : (((w3.setCell _ _).setCell _ _).setCell _ _).setCell _ _ = U
    obtain ⟨XU, OU⟩ := store4' (unhide Y3) hU
    have t0 := (unhide XU).cell 0
    have t1 := (unhide XU).cell 1
    have t2 := (unhide XU).cell 2
    have t3 := (unhide XU).cell 3
    simp at t0 t1 t2 t3
    refine bodyPost_ret (v := .agg #[.int .i64 code, .slice none 0 0, .slice none 0 0, .slice none 0 0]) (by simp [results, Try.results40, go_sem, t0, t1, t2, t3]) rfl ⟨⟨_, _, _, by rw [(unhide HC).1], by rw [(unhide HC).2]; exact ownNone _ _⟩, (unhide OU).below (unhide B3) (Nat.le_refl _) (fun q hq e => by omega)⟩
  obtain ⟨wv', fo', oo', fm', om', hM', hL'⟩ := hC hc
  have HC : Hid (chgCode D code = 0 ∧ chgDev D code D' = D') := by simp [Hid, chgCode, chgDev, hc, unhide HD0]
  rw [hc]
  clear hc hC
  have HM' := hide hM'
  have HL' : Hid (∀ q, MemB m wv' fo' oo' fm' om' q → W.heap.size ≤ q) := fun q hq => by
    rcases hL' q hq with h | h
    · exact unhide HL q h
    · omega
  clear hM' hL'
  go_wp2_with fail
  refine (device_any m wv' fo' oo' fm' om' D' W.heap.size _ (unhide HM') (unhide HL') (by omega) m2 m3).mono ?_
  rintro e w4 ⟨⟨s1, d1, s2, d2, s3, d3, rfl, hOD⟩, hb4⟩
  have z4 : w3.heap.size ≤ w4.heap.size := hb4.size
  have B4 := hide (below_step (unhide B3) hb4 (by omega))
  have Y4 := hide ((unhide Y3).below hb4)
  have OD := hide hOD
  clear hb4 hOD y0 y1 y2 y3 f0 f1 f2 f3 B3 Y3
  have y0 := (unhide Y4).cell 0
  have y1 := (unhide Y4).cell 1
  have y2 := (unhide Y4).cell 2
  have y3 := (unhide Y4).cell 3
  have f0 := (unhide Y4).frozen 0
  have f1 := (unhide Y4).frozen 1
  have f2 := (unhide Y4).frozen 2
  have f3 := (unhide Y4).frozen 3
  simp at y0 y1 y2 y3
  go_wp2_with fail
  clear y0 y1 y2 y3 f0 f1 f2 f3
  generalize hU : (((w4.setCell _ _).setCell _ _).setCell _ _).setCell _ _ = U
  obtain ⟨XU, OU⟩ := store4' (unhide Y4) hU
  have t0 := (unhide XU).cell 0
  have t1 := (unhide XU).cell 1
  have t2 := (unhide XU).cell 2
  have t3 := (unhide XU).cell 3
  simp at t0 t1 t2 t3
  have OD4 := (unhide OD).out (unhide OU) (fun q hq e => by have := ((unhide OD).lt hq).1; omega)
  have OD5 : OwnDev U w.heap.size (.slice s1 D'.words.length d1) (.slice s2 D'.flights.length d2) (.slice s3 D'.over.length d3) D' := ⟨own_base OD4.o1 (fun q hq => by have := (OD4.lt (.inl hq)).1; omega), own_base OD4.o2 (fun q hq => by have := (OD4.lt (.inr (.inl hq))).1; omega), own_base OD4.o3 (fun q hq => by have := (OD4.lt (.inr (.inr hq))).1; omega), OD4.n12, OD4.n13, OD4.n23⟩
  refine bodyPost_ret (v := .agg #[.int .i64 0, .slice s1 D'.words.length d1, .slice s2 D'.flights.length d2, .slice s3 D'.over.length d3]) (by simp [results, Try.results40, go_sem, t0, t1, t2, t3]) rfl ⟨⟨_, _, _, by rw [(unhide HC).1], by rw [(unhide HC).2]; exact OD5⟩, (unhide OU).below (unhide B4) (Nat.le_refl _) (fun q hq e => by omega)⟩

set_option maxHeartbeats 1000000 in
theorem flushFn_any (m : Nat) (wv fo oo : Value) (fm om : Nat) (D : Dev) (a : Int) (p0 : Nat) (w : World) (h : Mem w m wv fo oo fm om D) (hg : Good D) (n2 : D.flights.length ≤ 1100000) (n3 : D.over.length ≤ 1100000) (h0 : w.cell? ⟨p0, 0, none⟩ = some (.int .i64 a)) :
    Calls Try.prog 53 #[.pointer (some ⟨m, 0, none⟩), .pointer (some ⟨p0, 0, none⟩)] w fun e w' => e = .returned (.int .i64 (flushCode D a)) ∧ (flushCode D a = 0 → Chg m wv fo oo fm om w w' (flushDev D a)) ∧ Out (MemB m wv fo oo fm om) w w' := by
  have H := hide h
  clear h
  go_enter Try.func53, Try.ntmps53
  go_wp2_with fail
  refine (flush_any m wv fo oo fm om D a _ (unhide H) hg n2 n3).mono ?_
  rintro e w2 ⟨rfl, hC, hO⟩
  have HC := hide hC
  have HO := hide hO
  clear hC hO
  generalize hk : flushCode D a = k at *
  have HK := hide hk
  clear hk
  go_wp2_with fail
  go_ret
  exact ⟨ret_int (unhide HK).symm, fun e => unhide HC (by rw [← unhide HK]; exact e), unhide HO⟩
theorem flushO_len (l : List (Int × Int)) (a : Int) : (flushO l a).length ≤ l.length := List.length_filter_le _ _

set_option maxHeartbeats 2000000 in
theorem implFlushLine_any (a1 a2 a3 : Option Addr) (c1 c2 c3 : Nat) (D : Dev) (a : Int) (w : World) (h : DevAt w a1 a2 a3 D) (n1 : D.words.length ≤ 1048576) (n2 : D.flights.length ≤ 1048576) (n3 : D.over.length ≤ 1048576) :
    Calls Try.prog 18 #[.agg #[.slice a1 D.words.length c1, .slice a2 D.flights.length c2, .slice a3 D.over.length c3], .int .i64 a] w fun e w' => ResIs e w.heap.size w' (chgCode D (flushCode D a)) (chgDev D (flushCode D a) (flushDev D a)) ∧ Below w.heap.size w w' := by
  have hmf : ∀ (fn : Fn) (first cap : Array Value) (w : World), (Instr.makeFunc fn first cap).run Try.prog w = .ok (.func fn first cap) w := fun _ _ _ _ => rfl
  have H := hide h
  clear h
  go_enter Try.func18, Try.ntmps18
  go_wp2_with fail
  obtain ⟨W, hW, z1, hb, hx, hp, hy⟩ := boxes3 w [.slice a1 D.words.length c1, .slice a2 D.flights.length c2, .slice a3 D.over.length c3] [.int .i64 a] [.int .i64 0, .slice none 0 0, .slice none 0 0, .slice none 0 0] 27 2 31
  rw [← hW]
  clear hW
  have hl2 := flushF_len D.flights D.over a
  have hl3 := flushO_len D.over a
  refine (changed_flush a1 a2 a3 c1 c2 c3 D (flushDev D a) (flushCode D a) _ _ ((unhide H).below (unhide hb)) n1 n2 n3 (by show (flushF D.flights D.over a).length ≤ _; omega) (by show (flushO D.over a).length ≤ _; omega) (fun hg w2 hb2 m wv fo oo fm om hM => flushFn_any m wv fo oo fm om D a _ w2 hM hg (by omega) (by omega) (((unhide hp).below hb2).cell 0))).mono ?_
  rintro e w2 ⟨⟨v1, v2, v3, rfl, hOD⟩, hb2⟩
  obtain ⟨s1, d1, s2, d2, s3, d3, e1, e2, e3, -⟩ := hOD.form
  subst e1 e2 e3
  have z2 : W.heap.size ≤ w2.heap.size := hb2.size
  have B2 := hide (below_step (unhide hb) hb2 (by omega))
  have Y2 := hide ((unhide hy).below hb2)
  have OD := hide hOD
  have y0 := (unhide Y2).cell 0
  have y1 := (unhide Y2).cell 1
  have y2 := (unhide Y2).cell 2
  have y3 := (unhide Y2).cell 3
  have f0 := (unhide Y2).frozen 0
  have f1 := (unhide Y2).frozen 1
  have f2 := (unhide Y2).frozen 2
  have f3 := (unhide Y2).frozen 3
  simp at y0 y1 y2 y3
  clear hb2 hOD hb hx hp hy hl2 hl3
  go_wp2_with fail
  clear y0 y1 y2 y3 f0 f1 f2 f3
  generalize hU : (((w2.setCell _ _).setCell _ _).setCell _ _).setCell _ _ = U
  obtain ⟨XU, OU⟩ := store4' (unhide Y2) hU
  have t0 := (unhide XU).cell 0
  have t1 := (unhide XU).cell 1
  have t2 := (unhide XU).cell 2
  have t3 := (unhide XU).cell 3
  simp at t0 t1 t2 t3
  have OD4 := (unhide OD).out (unhide OU) (fun q hq e => by have := ((unhide OD).lt hq).1; omega)
  have OD5 := OD4.base (base' := w.heap.size) (by omega)
  refine bodyPost_ret (by simp [results, Try.results18, go_sem, t0, t1, t2, t3]) rfl ⟨⟨_, _, _, rfl, OD5⟩, (unhide OU).below (unhide B2) (Nat.le_refl _) (fun q hq e => by omega)⟩
end Go.Proofs.Ytgckkehlnahfmaa
