/-
  A word is written back, as the specification does it.
-/
import Derived.Test.YtdnfadbkpajloaaSFenceWalk
import Derived.Test.YtdnfadbkpajloaaEvictWalk
namespace Go.Proofs.Ytdnfadbkpajloaa
open Go.RowKit
set_option linter.unusedVariables false

theorem RowW.base {w : World} {base base' : Nat} {v : Value} {l : List (Int × Int)} (h : RowW w base v l) (hb : base' ≤ base) : RowW w base' v l := by
  rcases h with h | ⟨hl, h⟩
  · exact .inl h
  · exact .inr ⟨hl, own_base h (fun q hq => Nat.le_trans hb (h.lt q hq).1)⟩
theorem without_take {l : List (Int × Int)} {k : Nat} (hk : k < l.length) (x : Int) : without (l.take (k + 1)) x = without (l.take k) x ++ (if l[k].1 = x then [] else [l[k]]) := by
  rw [List.take_succ_eq_append_getElem hk, without, List.filter_append]
  congr 1
  by_cases h : l[k].1 = x
  · simp [h]
  · simp [h]

set_option maxHeartbeats 2000000 in
theorem l2Without_any (a : Option Addr) (c : Nat) (l : List (Int × Int)) (x : Int) (w : World) (h : PairsAt w a l) (hn : l.length ≤ 10000000) :
    Calls Try.prog 149 #[.slice a l.length c, .int .i64 x] w fun e w' => (∃ a' c', e = .returned (.slice a' (without l x).length c') ∧ RowW w' w.heap.size (.slice a' (without l x).length c') (without l x)) ∧ Below w.heap.size w w' := by
  obtain ⟨i0, hi, hz0, hz1, hz2⟩ := info_parts infoCell
  have H := hide h
  clear h
  go_enter Try.func149, Try.ntmps149
  go_wp2_with fail
  go_loopw [5, 6] (fun v i wr => ∃ (k : Nat) (a' : Option Addr) (c' : Nat), k ≤ l.length ∧ i = .int .i64 k ∧ v = .slice a' (without (l.take k) x).length c' ∧ Hid (RowW wr w.heap.size (.slice a' (without (l.take k) x).length c') (without (l.take k) x)) ∧ Hid (Below w.heap.size w wr)) (fun _ i _ => l.length - (intOf i).toNat)
  case atStart => exact ⟨0, some ⟨w.heap.size, 0, none⟩, 0, Nat.zero_le _, rfl, rfl, .inl ⟨rfl, _, rfl, .inr ⟨_, rfl⟩⟩, (Below.refl _ _).alloc (Nat.le_refl _) _⟩
  case round =>
    obtain ⟨k, a', c', hk, rfl, rfl, HO, HB⟩ := hrel
    have hwz := (unhide HB).size
    by_cases hlt : k < l.length
    · have hst := without_take hlt x
      obtain ⟨b1, o1, rfl, m1, hc1⟩ := ((unhide H).below (unhide HB)).at hlt
      have hk1 := (hc1 k hlt).1
      have hk2 := (hc1 k hlt).2
      have hbl : (without (l.take k) x).length ≤ l.length := Nat.le_trans (without_len _ _) (by rw [List.length_take]; omega)
      clear hc1
      by_cases he : l[k].1 = x
      · rw [if_pos he, List.append_nil] at hst
        have HST := hide hst
        have heb : (l[k].1 != x) = false := by simpa using he
        clear hst he
        go_wp2_with fail
        go_roundw
        case rel => exact ⟨k + 1, a', c', by omega, by go_num, by rw [unhide HST], by rw [unhide HST]; exact HO, HB⟩
        case measure => simp [intOf]; omega
      · rw [if_neg he] at hst
        have HST := hide hst
        have heb : (l[k].1 != x) = true := by simpa using he
        have HA := hide ((unhide HO).below ((Below.refl _ wr).alloc (Nat.le_refl _) (.cells #[.int .i64 l[k].1, .int .i64 l[k].2] 42)))
        clear hst he
        generalize hLL : without (l.take k) x = LL at *
        clear hLL
        go_wp2_with (at_builtin; refine wpList_append_row rfl _ _ 25 rfl w.heap.size i0 _ Try.underlying25 hi hz0 hz1 hz2 rfl (.slice a' LL.length c') LL rfl (unhide HA) (some ⟨wr.heap.size, 0, none⟩) 1 [(l[k].1, l[k].2)] rfl (pairs_one_new wr l[k].1 l[k].2 _) (by simp) (by simp; omega) (by simp; omega) ?_; intro a2 c2 w3 hR hO hq; have HR := hide hR; have HB3 := hide (hO.below ((unhide HB).alloc hwz (.cells #[.int .i64 l[k].1, .int .i64 l[k].2] 42)) (Nat.le_refl _) (fun q hq e => by have := ((unhide HO).lt e.1 q e.2).1; omega)); clear hR hO hq)
        go_roundw
        case rel => exact ⟨k + 1, a2, c2, by omega, by go_num, by rw [unhide HST, List.length_append]; rfl, by rw [unhide HST]; exact HR, HB3⟩
        case measure => simp [intOf]; omega
    · have hke : k = l.length := by omega
      subst hke
      have HT : Hid (without (l.take l.length) x = without l x) := by rw [Hid, List.take_length]
      rw [unhide HT] at HO
      rw [unhide HT]
      clear HT
      go_wp2_with fail
      go_ret
      exact ⟨⟨a', c', rfl, unhide HO⟩, unhide HB⟩

theorem SMem.setFl {w w' : World} {base d : Nat} {t : TypeId} {v1 v2 v3 v2' : Value} {D : Dev} {L : List (Int × Int)} (h : SMem w base d t v1 v2 v3 D) (hx : Box w' d [v1, v2', v3] t) (hL : RowW w' base v2' L) (hq : L ≠ [] → ∀ q, v2'.ownBlock = some q → (D.flights ≠ [] ∧ v2.ownBlock = some q) ∨ w.heap.size ≤ q) (ho : Out (fun q => q = d ∨ (D.flights ≠ [] ∧ v2.ownBlock = some q)) w w') :
    SMem w' base d t v1 v2' v3 ⟨D.words, L, D.over⟩ := by
  have hdl := h.box.lt
  refine ⟨hx, ⟨ho.own h.dev.o1 (fun q hq e => ?_), hL, h.dev.o3.out ho (fun hl q hq e => ?_), fun hl q h1 h2 => ?_, h.dev.n13, fun hl hf q h1 h2 => ?_⟩, ?_⟩
  · rcases e with e | ⟨hl, e⟩
    · exact h.nd q (.inl hq) e
    · exact h.dev.n12 hl q hq e
  · rcases e with e | ⟨hl2, e⟩
    · exact h.nd q (.inr (.inr ⟨hl, hq⟩)) e
    · exact h.dev.n23 hl2 hl q e hq
  · rcases hq hl q h2 with ⟨hl2, e⟩ | e
    · exact h.dev.n12 hl2 q h1 e
    · have := (h.dev.o1.lt q h1).2; omega
  · rcases hq hl q h1 with ⟨hl2, e⟩ | e
    · exact h.dev.n23 hl2 hf q e h2
    · have := (h.dev.o3.lt hf q h2).2; omega
  · rintro q (h1 | ⟨hl, h1⟩ | h1) e
    · exact h.nd q (.inl h1) e
    · rcases hq hl q h1 with h2 | h2
      · exact h.nd q (.inr (.inl h2)) e
      · omega
    · exact h.nd q (.inr (.inr h1)) e
theorem SMem.setWord {w : World} {base d g n c i : Nat} {v : Int} {t : TypeId} {v2 v3 : Value} {D : Dev} (h : SMem w base d t (.slice (some ⟨g, 0, none⟩) n c) v2 v3 D) :
    SMem (w.setCell ⟨g, i, none⟩ (.int .i64 v)) base d t (.slice (some ⟨g, 0, none⟩) n c) v2 v3 ⟨D.words.set i v, D.flights, D.over⟩ := by
  have ho : Out (fun q => q = g) w (w.setCell ⟨g, i, none⟩ (.int .i64 v)) := out_set' (Out.refl _ _) rfl (.inl rfl)
  refine ⟨h.box.out ho (fun e => h.nd g (.inl rfl) e.symm), ⟨?_, h.dev.o2.out ho (fun hl q hq e => h.dev.n12 hl g rfl (by rw [← e]; exact hq)), h.dev.o3.out ho (fun hl q hq e => h.dev.n13 hl g rfl (by rw [← e]; exact hq)), h.dev.n12, h.dev.n13, h.dev.n23⟩, h.nd⟩
  obtain ⟨a0, c0, e0, -⟩ := intsAt_own h.dev.o1
  injection e0 with e1 e2 e3
  subst e2
  have := (h.dev.o1.stored i (.int .i64 v)).1
  rw [nums_set] at this
  show World.ownsRow _ _ _ _ _ (D.words.set i v).length _
  rw [List.length_set]
  exact this
theorem SMem.drew {w : World} {base d : Nat} {t : TypeId} {v1 v2 v3 : Value} {D : Dev} (h : SMem w base d t v1 v2 v3 D) : SMem w.drew base d t v1 v2 v3 D := ⟨h.box, h.dev.stay (fun _ _ _ => rfl), h.nd⟩
theorem findI_neg {l : List (Int × Int)} {a : Int} (h : (look l a).isSome = false) : findI l a 0 = -1 := by
  rcases findI_look l a 0 with h2 | ⟨i, hi, h2, h3, -⟩
  · exact h2.2
  · rw [h3] at h; cases h
theorem findI_pos {l : List (Int × Int)} {a : Int} (h : (look l a).isSome = true) : 0 ≤ findI l a 0 := by
  rcases findI_look l a 0 with h2 | ⟨i, hi, h2, h3, -⟩
  · rw [h2.1] at h; cases h
  · omega

def evictOk (D : Dev) (a : Int) : Bool := (look D.flights a).isSome || (look D.over a).isSome
set_option maxRecDepth 20000 in
set_option maxHeartbeats 4000000 in
theorem l2Evict_any (d : Nat) (t : TypeId) (base : Nat) (v1 v2 v3 : Value) (D : Dev) (a : Int) (w : World) (h : SMem w base d t v1 v2 v3 D) (hbase : base ≤ w.heap.size) (ha : atOk D.words.length a = true) (n1 : D.words.length ≤ 1048576) (n2 : D.flights.length ≤ 1048576) (n3 : D.over.length ≤ 1048576) :
    Calls Try.prog 81 #[.pointer (some ⟨d, 0, none⟩), .int .i64 a] w fun e w' => e = .returned (.bool (evictOk D a)) ∧ (evictOk D a = true → ∃ u1 u2 u3, SMem w' base d t u1 u2 u3 (evictDev D a)) ∧ Out (fun q => q = d ∨ SB v1 v2 v3 D q) w w' := by
  obtain ⟨s1, d1, s2, d2, s3, d3, e1, e2, e3, hDA⟩ := h.dev.form
  subst e1 e2 e3
  have hab := inB_true.1 ha
  obtain ⟨gw, ow, rfl, -, hcw⟩ := hDA.r1.at (k := a.toNat) (by omega)
  have eow : ow = 0 := by
    rcases h.dev.o1.2 with ⟨e, _⟩ | ⟨g, cap, cur, e, _⟩
    · cases e
    · injection e with e; injection e with e; injection e
  subst eow
  have hcv := hcw a.toNat (by omega)
  rw [Nat.zero_add] at hcv
  have hfv := h.dev.o1.frozenAt a.toNat
  generalize D.words[a.toNat]'(by omega) = oldv at *
  have hl0 : 0 ≤ a := by omega
  have hl1 : a < D.words.length := by omega
  have c0 := h.box.cell 0
  have c1 := h.box.cell 1
  have c2 := h.box.cell 2
  simp at c0 c1 c2
  have H := hide h
  have HDA := hide hDA
  have HAT := hide ha
  have HB1 := hide h.nd
  clear h hDA hcw ha
  go_enter Try.func81, Try.ntmps81
  go_wp2_with fail
  refine (l2Find_any s3 d3 D.over a _ (unhide HDA).r3 (by omega)).mono ?_
  rintro e w1 ⟨rfl, rfl⟩
  cases h3 : (look D.over a).isSome
  · rw [findI_neg h3]
    go_wp2_with fail
    refine (l2Find_any s2 d2 D.flights a _ (unhide HDA).r2 (by omega)).mono ?_
    rintro e w1 ⟨rfl, rfl⟩
    cases h2 : (look D.flights a).isSome
    · rw [findI_neg h2]
      have HK : Hid (evictOk D a = false) := by simp [Hid, evictOk, h2, h3]
      clear h2 h3 hcv hfv
      go_wp2_with fail
      go_ret
      exact ⟨ret_bool (unhide HK).symm, (fun e => by rw [unhide HK] at e; cases e), Out.refl _ _⟩
    have hfp := findI_pos h2
    have HK : Hid (evictOk D a = true) := by simp [Hid, evictOk, h2]
    clear h2 h3
    generalize findI D.flights a 0 = r at *
    have hr : ¬ r < 0 := by omega
    clear hfp
    go_wp2_with fail
    have HD : Hid (SMem w1.drew base d t (.slice (some ⟨gw, 0, none⟩) D.words.length d1) (.slice s2 D.flights.length d2) (.slice s3 D.over.length d3) D) := (unhide H).drew
    have HDD : Hid (DevAt w1.drew (some ⟨gw, 0, none⟩) s2 s3 D) := (unhide HDA).below (Below.refl _ _).drew
    go_region_with (go_at_call 85; refine (l2Load_any d t _ _ _ _ _ _ D a _ (unhide HD).box (unhide HDD) (unhide HAT) n1 n2 n3).mono ?_; rintro e w2 ⟨rfl, rfl⟩)
    all_goals
      clear hcv hfv c0 c1 c2
      obtain ⟨V1, hU1, M1, O1⟩ : ∃ V1, V1 = (w1.setCell ⟨gw, a.toNat, none⟩ (.int .i64 (load D a))).drew ∧ Hid (SMem V1 base d t (.slice (some ⟨gw, 0, none⟩) D.words.length d1) (.slice s2 D.flights.length d2) (.slice s3 D.over.length d3) ⟨D.words.set a.toNat (load D a), D.flights, D.over⟩) ∧ Hid (Out (fun q => q = d ∨ SB (.slice (some ⟨gw, 0, none⟩) D.words.length d1) (.slice s2 D.flights.length d2) (.slice s3 D.over.length d3) D q) w1 V1) :=
        ⟨_, rfl, (unhide H).setWord.drew, outDrew (out_set' (Out.refl _ _) rfl (.inl (.inr (.inl rfl))))⟩
      rw [← hU1]
      have zV1 : w1.heap.size ≤ V1.heap.size := (unhide O1).size
      clear hU1
      have q2 := (unhide M1).box.cell 2
      simp at q2
      obtain ⟨aa1, cc1, aa2, cc2, aa3, cc3, e1, e2, e3, hR1⟩ := (unhide M1).dev.form
      injection e3 with e3 e3' e3''
      injection e2 with e2 e2' e2''
      subst e3 e2
      have P3 := hide hR1.r3
      have P2 := hide hR1.r2
      clear hR1 e1 e2' e2'' e3' e3''
      go_wp2_with fail
      refine (l2Without_any s3 d3 D.over a _ (unhide P3) (by omega)).mono ?_
      rintro e w3 ⟨⟨a3', c3', rfl, hR⟩, hb⟩
      have X3 := hide ((unhide M1).box.below hb)
      have y1 := (unhide X3).cell 1
      have y2 := (unhide X3).cell 2
      have f2 := (unhide X3).frozen 2
      simp at y1 y2
      have z3 : V1.heap.size ≤ w3.heap.size := hb.size
      have HR := hide hR
      have B3 := hide hb
      have P2b := hide ((unhide P2).below hb)
      have lX := (unhide M1).box.lt
      clear hR hb q2 P3 P2
      go_wp2_with fail
      obtain ⟨V4, hU4, M4, O4, P4⟩ : ∃ V4, V4 = w3.setCell ⟨d, 2, none⟩ (.slice a3' (without D.over a).length c3') ∧ Hid (SMem V4 base d t (.slice (some ⟨gw, 0, none⟩) D.words.length d1) (.slice s2 D.flights.length d2) (.slice a3' (without D.over a).length c3') ⟨D.words.set a.toNat (load D a), D.flights, without D.over a⟩) ∧ Hid (Out (fun q => q = d ∨ SB (.slice (some ⟨gw, 0, none⟩) D.words.length d1) (.slice s2 D.flights.length d2) (.slice s3 D.over.length d3) D q) w1 V4) ∧ Hid (PairsAt V4 s2 D.flights) := by
        have OU : Out (fun q => q = d) w3 (w3.setCell ⟨d, 2, none⟩ (.slice a3' (without D.over a).length c3')) := out_set' (Out.refl _ _) rfl (.inl rfl)
        have hM := (unhide M1).setOver ((unhide X3).set' rfl) (((unhide HR).out OU (fun hl q hq e => by have := ((unhide HR).lt hl q hq).1; omega)).base (base' := base) (by omega)) (fun hl q hq => .inr ((unhide HR).lt hl q hq).1) ((Out.ofBelow (unhide B3)).trans OU (fun q _ e => .inl e))
        obtain ⟨_, _, ax, _, _, _, _, ex, _, hRx⟩ := hM.dev.form
        injection ex with ex
        subst ex
        exact ⟨_, rfl, hM, ((unhide O1).trans (Out.ofBelow (unhide B3)) (fun _ _ h => h)).trans OU (fun q _ e => .inl e), hRx.r2⟩
      rw [← hU4]
      have z4 : V1.heap.size ≤ V4.heap.size := by rw [hU4]; exact Nat.le_trans z3 (size_set' rfl)
      clear hU4 y1 y2 f2 M1 O1 P2b
      refine (l2Without_any s2 d2 D.flights a _ (unhide P4) (by omega)).mono ?_
      rintro e w5 ⟨⟨a2', c2', rfl, hR⟩, hb⟩
      have X5 := hide ((unhide M4).box.below hb)
      have y1 := (unhide X5).cell 1
      have f1 := (unhide X5).frozen 1
      simp at y1
      have z5 : V4.heap.size ≤ w5.heap.size := hb.size
      have HR5 := hide hR
      have B5 := hide hb
      clear hR hb P4
      go_wp2_with fail
      generalize hU6 : w5.setCell _ _ = V6
      have OU : Out (fun q => q = d) w5 V6 := out_set' (Out.refl _ _) hU6 (.inl rfl)
      have M6 := (unhide M4).setFl ((unhide X5).set' hU6) (((unhide HR5).out OU (fun hl q hq e => by have := ((unhide HR5).lt hl q hq).1; omega)).base (base' := base) (by omega)) (fun hl q hq => .inr ((unhide HR5).lt hl q hq).1) ((Out.ofBelow (unhide B5)).trans OU (fun q _ e => .inl e))
      have O6 := ((unhide O4).trans (Out.ofBelow (unhide B5)) (fun _ _ h => h)).trans OU (fun q _ e => .inl e)
      go_ret
      exact ⟨ret_bool (unhide HK).symm, fun _ => ⟨_, _, _, M6⟩, O6⟩
  · have hfp := findI_pos h3
    have HK : Hid (evictOk D a = true) := by simp [Hid, evictOk, h3]
    clear h3
    generalize findI D.over a 0 = r at *
    have hr : ¬ r < 0 := by omega
    clear hfp
    go_wp2_with fail
    have HD : Hid (SMem w1.drew base d t (.slice (some ⟨gw, 0, none⟩) D.words.length d1) (.slice s2 D.flights.length d2) (.slice s3 D.over.length d3) D) := (unhide H).drew
    have HDD : Hid (DevAt w1.drew (some ⟨gw, 0, none⟩) s2 s3 D) := (unhide HDA).below (Below.refl _ _).drew
    go_region_with (go_at_call 85; refine (l2Load_any d t _ _ _ _ _ _ D a _ (unhide HD).box (unhide HDD) (unhide HAT) n1 n2 n3).mono ?_; rintro e w2 ⟨rfl, rfl⟩)
    all_goals
      clear hcv hfv c0 c1 c2
      obtain ⟨V1, hU1, M1, O1⟩ : ∃ V1, V1 = (w1.setCell ⟨gw, a.toNat, none⟩ (.int .i64 (load D a))).drew ∧ Hid (SMem V1 base d t (.slice (some ⟨gw, 0, none⟩) D.words.length d1) (.slice s2 D.flights.length d2) (.slice s3 D.over.length d3) ⟨D.words.set a.toNat (load D a), D.flights, D.over⟩) ∧ Hid (Out (fun q => q = d ∨ SB (.slice (some ⟨gw, 0, none⟩) D.words.length d1) (.slice s2 D.flights.length d2) (.slice s3 D.over.length d3) D q) w1 V1) :=
        ⟨_, rfl, (unhide H).setWord.drew, outDrew (out_set' (Out.refl _ _) rfl (.inl (.inr (.inl rfl))))⟩
      rw [← hU1]
      have zV1 : w1.heap.size ≤ V1.heap.size := (unhide O1).size
      clear hU1
      have q2 := (unhide M1).box.cell 2
      simp at q2
      obtain ⟨aa1, cc1, aa2, cc2, aa3, cc3, e1, e2, e3, hR1⟩ := (unhide M1).dev.form
      injection e3 with e3 e3' e3''
      injection e2 with e2 e2' e2''
      subst e3 e2
      have P3 := hide hR1.r3
      have P2 := hide hR1.r2
      clear hR1 e1 e2' e2'' e3' e3''
      go_wp2_with fail
      refine (l2Without_any s3 d3 D.over a _ (unhide P3) (by omega)).mono ?_
      rintro e w3 ⟨⟨a3', c3', rfl, hR⟩, hb⟩
      have X3 := hide ((unhide M1).box.below hb)
      have y1 := (unhide X3).cell 1
      have y2 := (unhide X3).cell 2
      have f2 := (unhide X3).frozen 2
      simp at y1 y2
      have z3 : V1.heap.size ≤ w3.heap.size := hb.size
      have HR := hide hR
      have B3 := hide hb
      have P2b := hide ((unhide P2).below hb)
      have lX := (unhide M1).box.lt
      clear hR hb q2 P3 P2
      go_wp2_with fail
      obtain ⟨V4, hU4, M4, O4, P4⟩ : ∃ V4, V4 = w3.setCell ⟨d, 2, none⟩ (.slice a3' (without D.over a).length c3') ∧ Hid (SMem V4 base d t (.slice (some ⟨gw, 0, none⟩) D.words.length d1) (.slice s2 D.flights.length d2) (.slice a3' (without D.over a).length c3') ⟨D.words.set a.toNat (load D a), D.flights, without D.over a⟩) ∧ Hid (Out (fun q => q = d ∨ SB (.slice (some ⟨gw, 0, none⟩) D.words.length d1) (.slice s2 D.flights.length d2) (.slice s3 D.over.length d3) D q) w1 V4) ∧ Hid (PairsAt V4 s2 D.flights) := by
        have OU : Out (fun q => q = d) w3 (w3.setCell ⟨d, 2, none⟩ (.slice a3' (without D.over a).length c3')) := out_set' (Out.refl _ _) rfl (.inl rfl)
        have hM := (unhide M1).setOver ((unhide X3).set' rfl) (((unhide HR).out OU (fun hl q hq e => by have := ((unhide HR).lt hl q hq).1; omega)).base (base' := base) (by omega)) (fun hl q hq => .inr ((unhide HR).lt hl q hq).1) ((Out.ofBelow (unhide B3)).trans OU (fun q _ e => .inl e))
        obtain ⟨_, _, ax, _, _, _, _, ex, _, hRx⟩ := hM.dev.form
        injection ex with ex
        subst ex
        exact ⟨_, rfl, hM, ((unhide O1).trans (Out.ofBelow (unhide B3)) (fun _ _ h => h)).trans OU (fun q _ e => .inl e), hRx.r2⟩
      rw [← hU4]
      have z4 : V1.heap.size ≤ V4.heap.size := by rw [hU4]; exact Nat.le_trans z3 (size_set' rfl)
      clear hU4 y1 y2 f2 M1 O1 P2b
      refine (l2Without_any s2 d2 D.flights a _ (unhide P4) (by omega)).mono ?_
      rintro e w5 ⟨⟨a2', c2', rfl, hR⟩, hb⟩
      have X5 := hide ((unhide M4).box.below hb)
      have y1 := (unhide X5).cell 1
      have f1 := (unhide X5).frozen 1
      simp at y1
      have z5 : V4.heap.size ≤ w5.heap.size := hb.size
      have HR5 := hide hR
      have B5 := hide hb
      clear hR hb P4
      go_wp2_with fail
      generalize hU6 : w5.setCell _ _ = V6
      have OU : Out (fun q => q = d) w5 V6 := out_set' (Out.refl _ _) hU6 (.inl rfl)
      have M6 := (unhide M4).setFl ((unhide X5).set' hU6) (((unhide HR5).out OU (fun hl q hq e => by have := ((unhide HR5).lt hl q hq).1; omega)).base (base' := base) (by omega)) (fun hl q hq => .inr ((unhide HR5).lt hl q hq).1) ((Out.ofBelow (unhide B5)).trans OU (fun q _ e => .inl e))
      have O6 := ((unhide O4).trans (Out.ofBelow (unhide B5)) (fun _ _ h => h)).trans OU (fun q _ e => .inl e)
      go_ret
      exact ⟨ret_bool (unhide HK).symm, fun _ => ⟨_, _, _, M6⟩, O6⟩

set_option maxHeartbeats 4000000 in
theorem specEvictWord_any (a1 a2 a3 : Option Addr) (c1 c2 c3 : Nat) (D : Dev) (a : Int) (w : World) (h : DevAt w a1 a2 a3 D) (n1 : D.words.length ≤ 1048576) (n2 : D.flights.length ≤ 1048576) (n3 : D.over.length ≤ 1048576) :
    Calls Try.prog 17 #[.agg #[.slice a1 D.words.length c1, .slice a2 D.flights.length c2, .slice a3 D.over.length c3], .int .i64 a] w fun e w' => ResRd e w.heap.size w' (chgCode D (evictCode D a)) (chgDev D (evictCode D a) (evictDev D a)) ∧ Below w.heap.size w w' := by
  have H := hide h
  clear h
  go_enter Try.func17, Try.ntmps17
  go_wp2_with fail
  obtain ⟨W, hW, z1, hb, hx, hy⟩ := boxes2 w [.slice a1 D.words.length c1, .slice a2 D.flights.length c2, .slice a3 D.over.length c3] [.int .i64 0, .slice none 0 0, .slice none 0 0, .slice none 0 0] 27 31
  rw [← hW]
  clear hW
  refine (specDeviceFault_any a1 a2 a3 c1 c2 c3 D _ ((unhide H).below (unhide hb)) n1 n2 n3).mono ?_
  rintro e w2 ⟨rfl, hb2⟩
  have z2 : W.heap.size ≤ w2.heap.size := hb2.size
  have B2 := hide (below_step (unhide hb) hb2 (by omega))
  have H2 := hide ((unhide H).below (unhide B2))
  have X2 := hide ((unhide hx).below hb2)
  have Y2 := hide ((unhide hy).below hb2)
  have y0 := (unhide Y2).cell 0
  have y1 := (unhide Y2).cell 1
  have y2 := (unhide Y2).cell 2
  have y3 := (unhide Y2).cell 3
  have f0 := (unhide Y2).frozen 0
  have f1 := (unhide Y2).frozen 1
  have f2 := (unhide Y2).frozen 2
  have f3 := (unhide Y2).frozen 3
  simp at y0 y1 y2 y3
  have x0 := (unhide X2).cell 0
  have x1 := (unhide X2).cell 1
  have x2 := (unhide X2).cell 2
  simp at x0 x1 x2
  clear hb2 hb hx hy H
  by_cases hf : devFault D = 0
  case neg =>
    have hfb : (devFault D != 0) = true := by simpa using hf
    have HC : Hid (chgCode D (evictCode D a) = devFault D ∧ chgDev D (evictCode D a) (evictDev D a) = none') := by simp [Hid, chgCode, chgDev, hf]
    clear hf
    go_wp2_with fail
    clear y0 y1 y2 y3 f0 f1 f2 f3
    generalize hU : (((w2.setCell _ _).setCell _ _).setCell _ _).setCell _ _ = U
    obtain ⟨XU, OU⟩ := store4' (unhide Y2) hU
    have t0 := (unhide XU).cell 0
    have t1 := (unhide XU).cell 1
    have t2 := (unhide XU).cell 2
    have t3 := (unhide XU).cell 3
    simp at t0 t1 t2 t3
    refine bodyPost_ret (v := .agg #[.int .i64 (devFault D), .slice none 0 0, .slice none 0 0, .slice none 0 0]) (by simp [results, Try.results17, go_sem, t0, t1, t2, t3]) rfl ⟨⟨none, 0, none, 0, none, 0, by rw [(unhide HC).1, (unhide HC).2]; rfl, by rw [(unhide HC).2]; exact rNone _ _ _⟩, (unhide OU).below (unhide B2) (Nat.le_refl _) (fun q hq e => by omega)⟩
  have HF := hide hf
  have HG := hide (good_of hf)
  rw [hf]
  clear hf
  go_wp2_with fail
  refine (l2At_any w.heap.size _ _ _ a _ x0 n1).mono ?_
  rintro e w3 ⟨rfl, rfl⟩
  cases hck : atOk D.words.length a
  · have HC : Hid (chgCode D (evictCode D a) = 3 ∧ chgDev D (evictCode D a) (evictDev D a) = none') := by simp [Hid, chgCode, chgDev, unhide HF, evictCode, hck]
    clear hck
    go_wp2_with fail
    clear y0 y1 y2 y3 f0 f1 f2 f3
    generalize hU : (((w3.setCell _ _).setCell _ _).setCell _ _).setCell _ _ = U
    obtain ⟨XU, OU⟩ := store4' (unhide Y2) hU
    have t0 := (unhide XU).cell 0
    have t1 := (unhide XU).cell 1
    have t2 := (unhide XU).cell 2
    have t3 := (unhide XU).cell 3
    simp at t0 t1 t2 t3
    refine bodyPost_ret (v := .agg #[.int .i64 3, .slice none 0 0, .slice none 0 0, .slice none 0 0]) (by simp [results, Try.results17, go_sem, t0, t1, t2, t3]) rfl ⟨⟨none, 0, none, 0, none, 0, by rw [(unhide HC).1, (unhide HC).2]; rfl, by rw [(unhide HC).2]; exact rNone _ _ _⟩, (unhide OU).below (unhide B2) (Nat.le_refl _) (fun q hq e => by omega)⟩
  have HK0 := hide hck
  clear hck
  go_wp2_with fail
  clear y0 y1 y2 y3 f0 f1 f2 f3 x0 x1 x2
  refine (l2Copy_any w.heap.size _ a1 a2 a3 c1 c2 c3 D _ (unhide X2) (unhide H2) (by have := (unhide HG).small; omega) n1 n2 n3).mono ?_
  rintro e w4 ⟨⟨v1, v2, v3, rfl, hS⟩, hb4⟩
  obtain ⟨s1, d1, s2, d2, s3, d3, e1, e2, e3, -⟩ := hS.form
  subst e1 e2 e3
  have z4 : w3.heap.size ≤ w4.heap.size := hb4.size
  have B4 := hide (below_step (unhide B2) hb4 (by omega))
  have Y4 := hide ((unhide Y2).below hb4)
  have S4 := hide hS
  have HS := hide (fun q hq => SDev.lt (q := q) hS hq)
  clear hb4 hS X2 H2 Y2 B2
  go_wp2_with fail
  obtain ⟨U, hW, z5, hb, hx⟩ := boxes1 w4 [.slice s1 D.words.length d1, .slice s2 D.flights.length d2, .slice s3 D.over.length d3] 27
  rw [← hW]
  clear hW
  have B5 := hide (below_step (unhide B4) (unhide hb) (by omega))
  have Y5 := hide ((unhide Y4).below (unhide hb))
  have S5 := hide ((unhide S4).below (unhide hb))
  have M5 : Hid (SMem U w3.heap.size w4.heap.size 27 (.slice s1 D.words.length d1) (.slice s2 D.flights.length d2) (.slice s3 D.over.length d3) D) := ⟨unhide hx, unhide S5, fun q hq e => by have := unhide HS q hq; omega⟩
  clear hb hx B4 Y4 S4 S5
  refine (l2Evict_any w4.heap.size _ _ _ _ _ D a _ (unhide M5) (by omega) (unhide HK0) n1 n2 n3).mono ?_
  rintro e w6 ⟨rfl, hM, hO⟩
  cases hok : evictOk D a
  · have HC : Hid (chgCode D (evictCode D a) = 4 ∧ chgDev D (evictCode D a) (evictDev D a) = none') := by
      have : evictCode D a = 4 := by rw [evictCode, if_pos (unhide HK0), if_neg]; rw [← evictOk, hok]; simp
      simp [Hid, chgCode, chgDev, unhide HF, this]
    have z6 : U.heap.size ≤ w6.heap.size := hO.size
    have B2 := hide (hO.below (unhide B5) (Nat.le_refl _) (fun q hq e => by rcases e with e | e; (omega); have := unhide HS q e; omega))
    have Y2 := hide ((unhide Y5).out hO (fun e => by rcases e with e | e; (omega); have := unhide HS _ e; omega))
    clear hM hO M5 B5 Y5 hok
    have y0 := (unhide Y2).cell 0
    have y1 := (unhide Y2).cell 1
    have y2 := (unhide Y2).cell 2
    have y3 := (unhide Y2).cell 3
    have f0 := (unhide Y2).frozen 0
    have f1 := (unhide Y2).frozen 1
    have f2 := (unhide Y2).frozen 2
    have f3 := (unhide Y2).frozen 3
    simp at y0 y1 y2 y3
    go_wp2_with fail
    clear y0 y1 y2 y3 f0 f1 f2 f3
    generalize hU : (((w6.setCell _ _).setCell _ _).setCell _ _).setCell _ _ = U
    obtain ⟨XU, OU⟩ := store4' (unhide Y2) hU
    have t0 := (unhide XU).cell 0
    have t1 := (unhide XU).cell 1
    have t2 := (unhide XU).cell 2
    have t3 := (unhide XU).cell 3
    simp at t0 t1 t2 t3
    refine bodyPost_ret (v := .agg #[.int .i64 4, .slice none 0 0, .slice none 0 0, .slice none 0 0]) (by simp [results, Try.results17, go_sem, t0, t1, t2, t3]) rfl ⟨⟨none, 0, none, 0, none, 0, by rw [(unhide HC).1, (unhide HC).2]; rfl, by rw [(unhide HC).2]; exact rNone _ _ _⟩, (unhide OU).below (unhide B2) (Nat.le_refl _) (fun q hq e => by omega)⟩
  have HC : Hid (chgCode D (evictCode D a) = 0 ∧ chgDev D (evictCode D a) (evictDev D a) = (evictDev D a)) := by
    have : evictCode D a = 0 := by rw [evictCode, if_pos (unhide HK0), if_pos]; rw [← evictOk]; exact hok
    simp [Hid, chgCode, chgDev, unhide HF, this]
  obtain ⟨u1, u2, u3, hM⟩ := hM hok
  clear hok
  obtain ⟨p1, q1, p2, q2, p3, q3, e1, e2, e3, hR⟩ := hM.dev.toR
  subst e1 e2 e3
  have z6 : U.heap.size ≤ w6.heap.size := hO.size
  have B6 := hide (hO.below (unhide B5) (Nat.le_refl _) (fun q hq e => by rcases e with e | e; (omega); have := unhide HS q e; omega))
  have Y6 := hide ((unhide Y5).out hO (fun e => by rcases e with e | e; (omega); have := unhide HS _ e; omega))
  have c0 := hM.box.cell 0
  have c1 := hM.box.cell 1
  have c2 := hM.box.cell 2
  simp at c0 c1 c2
  have HR := hide hR
  clear hR hM hO M5 B5 Y5
  have y0 := (unhide Y6).cell 0
  have y1 := (unhide Y6).cell 1
  have y2 := (unhide Y6).cell 2
  have y3 := (unhide Y6).cell 3
  have f0 := (unhide Y6).frozen 0
  have f1 := (unhide Y6).frozen 1
  have f2 := (unhide Y6).frozen 2
  have f3 := (unhide Y6).frozen 3
  simp at y0 y1 y2 y3
  go_wp2_with fail
  clear y0 y1 y2 y3 f0 f1 f2 f3
  generalize hU : (((w6.setCell _ _).setCell _ _).setCell _ _).setCell _ _ = V
  obtain ⟨XV, OV⟩ := store4' (unhide Y6) hU
  have t0 := (unhide XV).cell 0
  have t1 := (unhide XV).cell 1
  have t2 := (unhide XV).cell 2
  have t3 := (unhide XV).cell 3
  simp at t0 t1 t2 t3
  have zV : w6.heap.size ≤ V.heap.size := (unhide OV).size
  have R7 := ((unhide HR).out (unhide OV) (fun q h1 h2 e => by omega)).wide (lo' := w.heap.size) (hi' := V.heap.size) (by omega) zV
  refine bodyPost_ret (v := .agg #[.int .i64 0, .slice p1 (evictDev D a).words.length q1, .slice p2 (evictDev D a).flights.length q2, .slice p3 (evictDev D a).over.length q3]) (by simp [results, Try.results17, go_sem, t0, t1, t2, t3]) rfl ⟨⟨_, _, _, _, _, _, by rw [(unhide HC).1, (unhide HC).2], by rw [(unhide HC).2]; exact R7⟩, (unhide OV).below (unhide B6) (Nat.le_refl _) (fun q hq e => by omega)⟩

theorem evictDev_len (D : Dev) (a : Int) (k1 : D.words.length ≤ 1048576) (k2 : D.flights.length ≤ 1048576) (k3 : D.over.length ≤ 1048576) : (chgDev D (evictCode D a) (evictDev D a)).words.length ≤ 1048576 ∧ (chgDev D (evictCode D a) (evictDev D a)).flights.length ≤ 1048576 ∧ (chgDev D (evictCode D a) (evictDev D a)).over.length ≤ 1048576 := by
  have h2 := without_len D.flights a
  have h3 := without_len D.over a
  refine chgDev_len fun hg => ⟨?_, ?_, ?_⟩
  · show (D.words.set _ _).length ≤ _; rw [List.length_set]; exact k1
  · show (without D.flights a).length ≤ _; omega
  · show (without D.over a).length ≤ _; omega
end Go.Proofs.Ytdnfadbkpajloaa
