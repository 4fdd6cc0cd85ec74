/-
  The laws' draw of words that are read.
-/
import Derived.Test.YtaadbgebcknfkaaDraw3Pack
import Derived.Test.YtaadbgebcknfkaaDraw3Fault
import Derived.Test.YtaadbgebcknfkaaSPackWalk
import Derived.Test.YtaadbgebcknfkaaSDataWalk
import Derived.Deep.RegionWith
import Derived.Deep.CutRange
import Derived.Deep.CutBlock
namespace Go.Proofs.Ytaadbgebcknfkaa
open Go.RowKit
set_option linter.unusedVariables false

def i64B (x : Int) : Prop := -9223372036854775808 ≤ x ∧ x ≤ 9223372036854775807
theorem headWordI_small {k u i e : Int} (h1 : 0 ≤ k ∧ k ≤ 3) (h2 : 0 ≤ u ∧ u ≤ 999) (h3 : 0 ≤ i ∧ i ≤ 3) (h4 : 0 ≤ e ∧ e ≤ 9999) : i64B (headWordI k u i e) := by
  unfold headWordI i64B; omega
theorem nameWordL_small {l : List UInt8} (h : isNameL l = true) : i64B (nameWordL l) := by
  have h1 := nameWordL_bounds l h l.length (Nat.le_refl _)
  rw [List.take_length] at h1
  have h2 : l.length ≤ 6 := by
    unfold isNameL at h
    simp at h
    omega
  have h3 : (27 : Int) ^ l.length ≤ 27 ^ 6 := by
    have := Nat.pow_le_pow_right (n := 27) (by omega) h2
    exact_mod_cast this
  have h4 : (27 : Int) ^ 6 = 387420489 := by decide
  unfold i64B; omega
theorem data_small {u i e : Int} {l : List Int} (h2 : 0 ≤ u ∧ u ≤ 999) (h3 : 0 ≤ i ∧ i ≤ 3) (h4 : 0 ≤ e ∧ e ≤ 9999) (hl : ∀ x ∈ l, 0 ≤ x ∧ x ≤ 9999) : ∀ x ∈ headWordI 2 u i e :: (l ++ [0, 0, 0]), i64B x := by
  intro x hx
  simp only [List.mem_cons, List.mem_append, List.not_mem_nil, or_false] at hx
  rcases hx with rfl | hx | rfl | rfl | rfl
  · exact headWordI_small (by omega) h2 h3 h4
  · have := hl x hx; unfold i64B; omega
  all_goals (unfold i64B; omega)
/-- Eight words in a row of our own. -/
def Row8 (w : World) (B g cp : Nat) (l : List Int) : Prop := w.ownsRow B 2 1 (.slice (some ⟨g, 0, none⟩) 8 cp) 8 (nums l) ∧ l.length = 8 ∧ 8 ≤ cp ∧ cp ≤ maxLen ∧ ∀ x ∈ l, i64B x
theorem row8_of {w : World} {B : Nat} {v : Value} {l : List Int} (h : w.ownsRow B 2 1 v l.length (nums l)) (hl : l.length = 8) (hb : ∀ x ∈ l, i64B x) : ∃ g cp, v = .slice (some ⟨g, 0, none⟩) 8 cp ∧ Row8 w B g cp l := by
  rw [hl] at h
  rcases h.2 with ⟨_, h0⟩ | ⟨g, cap, cur, rfl, hg, hh, hc, hm, hs, ht⟩
  · omega
  · exact ⟨g, cap, rfl, h, hl, hc, hm, hb⟩
theorem Row8.lt {w : World} {B g cp : Nat} {l : List Int} (h : Row8 w B g cp l) : B ≤ g ∧ g < w.heap.size := h.1.lt g rfl
theorem Row8.out {F : Nat → Prop} {w w' : World} {B g cp : Nat} {l : List Int} (h : Row8 w B g cp l) (ho : Out F w w') (hF : ¬ F g) : Row8 w' B g cp l := ⟨ho.own h.1 (fun q hq f => by cases hq; exact hF f), h.2⟩
theorem Row8.set {w : World} {B g cp : Nat} {l : List Int} (h : Row8 w B g cp l) (i : Nat) (x : Int) (hx : i64B x) : Row8 (w.setCell ⟨g, i, none⟩ (.int .i64 x)) B g cp (l.set i x) :=
  ⟨by rw [← nums_set]; exact (h.1.stored i (.int .i64 x)).1, by simpa using h.2.1, h.2.2.1, h.2.2.2.1, fun y hy => by
    rcases List.mem_or_eq_of_mem_set hy with hy | rfl
    · exact h.2.2.2.2 y hy
    · exact hx⟩
theorem Row8.base {w : World} {B B' g cp : Nat} {l : List Int} (h : Row8 w B g cp l) (hB : B' ≤ B) : Row8 w B' g cp l := ⟨own_base h.1 (fun q hq => by have := (h.1.lt q hq).1; omega), h.2⟩
theorem Row8.ints {w : World} {B g cp : Nat} {l : List Int} (h : Row8 w B g cp l) : IntsAt w (some ⟨g, 0, none⟩) l := intsAt_own1 h.1
theorem Row8.has {w : World} {B g cp : Nat} {l : List Int} (h : Row8 w B g cp l) {i : Nat} (hi : i < 8) : ∃ v, w.cell? ⟨g, i, none⟩ = some v := by
  have hl := h.2.1
  refine ⟨.int .i64 (l[i]'(by omega)), ?_⟩
  rw [h.1.cellAt i (by omega), nums_at (by omega)]
theorem IntsAt.take {w : World} {a : Option Addr} {l : List Int} (h : IntsAt w a l) (k : Nat) : IntsAt w a (l.take k) := by
  by_cases hz : (l.take k).length = 0
  · exact .inl (List.length_eq_zero_iff.1 hz)
  · have hk : (l.take k).length = min k l.length := List.length_take
    obtain ⟨b, o, e, hb, hc⟩ := h.at (k := 0) (by omega)
    refine .inr ⟨b, o, e, hb, fun i hi => ?_⟩
    rw [hc i (by omega), List.getElem_take]
set_option maxRecDepth 20000 in
set_option maxHeartbeats 4000000 in
theorem drawReadBlock_any (a : Option Addr) (n c : Nat) (w : World) (h : CodeAt w a n) (hn : n ≤ 2000000) :
    Calls Try.prog 7 #[.slice a n c] w fun r w' => (∃ g l cp, r = .returned (.slice (some ⟨g, 0, none⟩) (List.length l) cp) ∧ List.length l ≤ cp ∧ List.length l ≤ 8 ∧ w.heap.size ≤ g ∧ IntsAt w' (some ⟨g, 0, none⟩) l ∧ ∀ x ∈ l, i64B x) ∧ Below w.heap.size w w' := by
  have H := hide h
  clear h
  go_enter Try.func7, Try.ntmps7
  go_wp2_with fail
  refine (l1Source_any a n c _).mono ?_
  rintro r W1 ⟨rfl, hW1⟩
  obtain ⟨hS, hB⟩ := source_new hW1 (unhide H) hn
  have S1 := hide hS
  have B1 := hide hB
  have zs : w.heap.size < W1.heap.size := hS.lt
  clear hS hB hW1 H
  go_wp2_with fail
  refine (drawNode_any w.heap.size a n c 0 _ (unhide S1) (by omega)).mono ?_
  rintro r w2 ⟨⟨u, d, pa, nm, sz, rfl, hu0, hu1, hnm, hp0, hp1, hs0, hs1⟩, ⟨q2, hq2, h2⟩, o2⟩
  obtain ⟨W2, hW2, hW2z, HB2, HN2⟩ := boxes1 w2 [.int .i64 u, .bool d, .int .i64 pa, .string nm, .int .i64 sz] 29
  have S2 := hide (h2.below (unhide HB2))
  have z2 := o2.size
  have B2 := hide (below_step (o2.belowS (unhide B1) (Nat.le_refl _) (Nat.le_refl _)) (unhide HB2) (by omega))
  have HNM := hide hnm
  clear h2 o2 S1 B1 hnm HB2
  go_wp2_with fail
  have hzW : W2.heap.size = w2.heap.size + 1 := by rw [hW2]; simp
  rw [← hW2, ← hzW]
  clear hW2 hzW
  obtain ⟨b, hb⟩ : ∃ b, b = w2.heap.size := ⟨_, rfl⟩
  rw [← hb] at HN2 ⊢
  have hbs : b ≠ w.heap.size := by omega
  have hbl : b < W2.heap.size := by omega
  have hbg : w.heap.size < b := by omega
  clear hb
  refine (pick_new w.heap.size a n c q2 (fun x => x = 1 ∨ x = 2 ∨ x = 5) (nums [1, 2, 5]).toArray 2 3 W2 (unhide S2) (by omega) rfl (by omega) (by omega) (offerI _ _ (by simp))).mono ?_
  rintro r w3 ⟨⟨e, he, rfl⟩, h3, o3⟩
  have S3 := hide h3
  have B3 := hide (o3.belowS (unhide B2) (Nat.le_refl _) (Nat.le_refl _))
  have N3 := hide ((unhide HN2).out o3 hbs)
  have z3 := o3.size
  have he2 : 1 ≤ e ∧ e ≤ 5 := by omega
  clear h3 o3 S2 B2 HN2 he
  go_wp2_with fail
  have hok1 : headOk 1 u 0 e = true := by simp [headOk, inB]; omega
  refine (l3Node_any b u d pa nm sz e _ _ (unhide N3) hok1 (unhide HNM)).mono ?_
  rintro r w4 ⟨⟨v4, rfl, ho⟩, hb4⟩
  obtain ⟨g4, cp4, rfl, hr4⟩ := row8_of ho rfl (by
    have k1 := headWordI_small (k := 1) (u := u) (i := 0) (e := e) (by omega) (by omega) (by omega) (by omega)
    have k2 := nameWordL_small (unhide HNM)
    have k3 : i64B (nodeKindI d) := by cases d <;> simp [nodeKindI, i64B]
    intro x hx
    simp at hx
    rcases hx with rfl | rfl | rfl | rfl | rfl | rfl
    · exact k1
    · exact k3
    · unfold i64B; omega
    · exact k2
    · unfold i64B; omega
    · unfold i64B; omega)
  have R4 := hide hr4
  have S4 := hide ((unhide S3).below hb4)
  have N4 := hide ((unhide N3).below hb4)
  have B4 := hide (below_step (unhide B3) hb4 (by omega))
  have z4 := hb4.size
  clear ho hr4 hb4 S3 N3 B3
  go_wp2_with fail
  refine (next_out w.heap.size a n c (q2 + 1) 4 _ (unhide S4) (by omega) (by omega) (by omega)).mono ?_
  rintro r w5 ⟨⟨v, rfl, hv0, hv1⟩, h5, o5⟩
  have S5 := hide h5
  have N5 := hide ((unhide N4).out o5 hbs)
  have B5 := hide (o5.belowS (unhide B4) (Nat.le_refl _) (Nat.le_refl _))
  have R5 := hide ((unhide R4).out o5 (by have := (unhide R4).lt; omega))
  have z5 := o5.size
  clear h5 o5 S4 N4 B4 R4
  go_upto_block 0 with fail
  go_cut [6] from 18 (fun s6 wx => ∃ g cp l q, s6 = .slice (some ⟨g, 0, none⟩) 8 cp ∧ Hid (Row8 wx (w.heap.size + 1) g cp l) ∧ q ≤ 30 ∧ Hid (SrcAt wx 132 w.heap.size a n c q) ∧ Hid (Below w.heap.size w wx))
  case first =>
    have HOK2 : Hid (∀ x : Int, 0 ≤ x → x < 4 → headOk 2 u x e = true) := fun x h1 h2 => by simp [headOk, inB]; omega
    by_cases hv : v = 0
    · have hvb : (v == 0) = true := by simpa using hv
      clear hv
      have n5 := (unhide N5).cell 0
      simp only [List.getElem?_cons_zero] at n5
      have S5d : Hid (SrcAt w5.drew 132 w.heap.size a n c (q2 + 1 + 1)) := unhide S5
      have N5d := hide (unhide N5).drew
      have B5d := hide (unhide B5).drew
      clear R5
      go_wp2_with fail
      go_region_with (first
        | (go_at_call 34; (with_reducible refine (next_out w.heap.size a n c (q2 + 1 + 1) 4 _ (unhide S5d) (by omega) (by omega) (by omega)).mono ?_); rintro r w6 ⟨⟨v6, rfl, a6, b6⟩, h6, o6⟩; have S6 := hide h6; have N6 := hide ((unhide N5d).out o6 hbs); have B6 := hide (o6.belowS (unhide B5d) (Nat.le_refl _) (Nat.le_refl _)); have z6 : w5.heap.size ≤ w6.heap.size := o6.size; have n6 := (unhide N6).cell 0; simp only [List.getElem?_cons_zero] at n6; clear h6 o6)
        | (go_at_call 36; (with_reducible refine (numbers_any w.heap.size a n c (q2 + 1 + 1 + 1) _ (unhide S6) (by omega)).mono ?_); rintro r w7 ⟨⟨x7, l7, rfl, k7, hl7, hx7⟩, ⟨q7, hq7, h7⟩, o7⟩; obtain ⟨a7, c7, e7, -, i7, -⟩ := intsAt_own k7; subst e7; have HL7 := hide hl7; have S7 := hide h7; have I7 := hide i7; have X7 := hide hx7; have N7 := hide ((unhide N6).out o7 hbs); have B7 := hide (o7.belowS (unhide B6) (Nat.le_refl _) (Nat.le_refl _)); have z7 : w6.heap.size ≤ w7.heap.size := o7.size; have n7 := (unhide N7).cell 0; simp only [List.getElem?_cons_zero] at n7; clear h7 k7 hx7 o7 i7 hl7)
        | (go_at_call 35; have CD := l3Data_any u v6 a7 c7 l7 e w7 (unhide I7) (by rw [unhide HL7]; omega) (unhide HOK2 v6 a6 b6); (with_reducible refine CD.mono ?_); clear CD; rintro r w8 ⟨⟨x8, rfl, k8⟩, hb8⟩; obtain ⟨g8, cp8, e8, r8⟩ := row8_of k8 (by simp [unhide HL7]) (data_small (by omega) (by omega) (by omega) (unhide X7)); subst e8; have R8 := hide (r8.base (show w.heap.size + 1 ≤ _ by omega)); have S8 := hide ((unhide S7).below hb8); have B8 := hide (below_step (unhide B7) hb8 (by omega)); clear k8 hb8 r8))
      all_goals (go_wp2_with fail; go_meet; exact ⟨g8, cp8, _, q7, rfl, R8, by omega, S8, B8⟩)
    · have hvb : (v == 0) = false := by simpa using hv
      clear hv
      by_cases hv : v = 1
      · have hvc : (v == 1) = true := by simpa using hv
        clear hv
        have n5 := (unhide N5).cell 0
        simp only [List.getElem?_cons_zero] at n5
        clear R5
        go_wp2_with fail
        refine (l3Gone_any u e _ (by simp [headOk, inB]; omega)).mono ?_
        rintro r w8 ⟨⟨x8, rfl, k8⟩, hb8⟩
        obtain ⟨g8, cp8, e8, r8⟩ := row8_of k8 rfl (by
          have k1 := headWordI_small (k := 3) (u := u) (i := 0) (e := e) (by omega) (by omega) (by omega) (by omega)
          intro x hx
          simp at hx
          rcases hx with rfl | rfl
          · exact k1
          · unfold i64B; omega)
        subst e8
        have R8 := hide (r8.base (show w.heap.size + 1 ≤ _ by omega))
        have S8 := hide ((unhide S5).below hb8)
        have B8 := hide (below_step (unhide B5) hb8 (by omega))
        clear k8 hb8 r8 n5
        go_wp2_with fail
        go_meet
        exact ⟨g8, cp8, _, _, rfl, R8, by omega, S8, B8⟩
      · have hvc : (v == 1) = false := by simpa using hv
        clear hv
        have R8 := hide ((unhide R5).base (show w.heap.size + 1 ≤ _ by omega))
        go_wp2_with fail
        go_meet
        exact ⟨g4, cp4, _, _, rfl, R8, by omega, S5, B5⟩
  case rest =>
    obtain ⟨g, cp, l, q, rfl, HR, hq, HS, HB⟩ := hcut
    clear R5 S5 N5 B5 HNM
    have hcp := (unhide HR).2.2.1
    have hgg := (unhide HR).lt
    have hll := (unhide HR).2.1
    have HLL := hide hll
    clear hll
    have bz := (unhide HB).size
    go_wp2_with fail
    refine (next_out w.heap.size a n c q 6 _ (unhide HS) (by omega) (by omega) (by omega)).mono ?_
    rintro r w9 ⟨⟨y, rfl, hy0, hy1⟩, h9, o9⟩
    have S9 := hide h9
    have R9 := hide ((unhide HR).out o9 (by omega))
    have B9 := hide (o9.belowS (unhide HB) (Nat.le_refl _) (Nat.le_refl _))
    have z9 := o9.size
    clear h9 o9 HS HR HB
    by_cases hy : y = 0
    · have hyb : (y == 0) = true := by simpa using hy
      clear hy
      go_wp2_with fail
      refine (next_out w.heap.size a n c (q + 1) 8 _ (unhide S9) (by omega) (by omega) (by omega)).mono ?_
      rintro r w10 ⟨⟨j', rfl, hj0, hj1⟩, h10, o10⟩
      obtain ⟨j, rfl⟩ : ∃ j : Nat, j' = j := ⟨j'.toNat, by omega⟩
      have hj : j < 8 := by omega
      have S10 := hide h10
      have R10 := hide ((unhide R9).out o10 (by omega))
      have B10 := hide (o10.belowS (unhide B9) (Nat.le_refl _) (Nat.le_refl _))
      have z10 := o10.size
      clear h10 o10 S9 R9 B9
      go_wp2_with fail
      refine (pick_new w.heap.size a n c (q + 1 + 1) (fun x => -1 ≤ x ∧ x ≤ 99999) (nums [0, 1, 5, -1, 99999]).toArray 2 5 w10 (unhide S10) (by omega) rfl (by omega) (by omega) (offerI _ _ (by simp))).mono ?_
      rintro r w11 ⟨⟨x, hx, rfl⟩, h11, o11⟩
      have R11 := hide ((unhide R10).out o11 (by omega))
      have B11 := hide (o11.belowS (unhide B10) (Nat.le_refl _) (Nat.le_refl _))
      clear h11 o11 S10 R10 B10
      obtain ⟨v0, c0⟩ := (unhide R11).has hj
      have f0 := (unhide R11).1.frozenAt j
      have RR := hide ((unhide R11).set j x (by unfold i64B; omega))
      have BB := hide ((unhide B11).setCell (p := ⟨g, j, none⟩) (by show w.heap.size ≤ g; omega) (.int .i64 x))
      have HLS : Hid ((l.set j x).length = 8) := by rw [Hid, List.length_set]; exact unhide HLL
      go_wp2_with fail
      go_ret
      exact ⟨⟨g, l.set j x, cp, by (rw [unhide HLS]) <;> rfl, by rw [unhide HLS]; exact hcp, by rw [unhide HLS]; omega, by omega, (unhide RR).ints, (unhide RR).2.2.2.2⟩, unhide BB⟩
    · have hyb : (y == 0) = false := by simpa using hy
      clear hy
      by_cases hy : y = 1
      · have hyc : (y == 1) = true := by simpa using hy
        clear hy
        go_wp2_with fail
        refine (pick_new w.heap.size a n c (q + 1) (fun x => x = 7 ∨ x = 0) (nums [7, 0]).toArray 2 2 w9 (unhide S9) (by omega) rfl (by omega) (by omega) (offerI _ _ (by simp))).mono ?_
        rintro r w11 ⟨⟨x, hx, rfl⟩, h11, o11⟩
        obtain ⟨j, rfl⟩ : ∃ j : Nat, x = j := ⟨x.toNat, by omega⟩
        have hj : j ≤ 7 := by omega
        have R11 := hide ((unhide R9).out o11 (by omega))
        have B11 := hide (o11.belowS (unhide B9) (Nat.le_refl _) (Nat.le_refl _))
        clear h11 o11 S9 R9 B9 hx
        have HLT : Hid ((l.take j).length = j) := by rw [Hid, List.length_take, unhide HLL]; omega
        have hjc : j ≤ cp := by omega
        go_wp2_with fail
        go_ret
        exact ⟨⟨g, l.take j, cp, by (rw [unhide HLT]) <;> rfl, by rw [unhide HLT]; omega, by rw [unhide HLT]; omega, by omega, (unhide R11).ints.take j, fun x hx => (unhide R11).2.2.2.2 x (List.mem_of_mem_take hx)⟩, unhide B11⟩
      · have hyc : (y == 1) = false := by simpa using hy
        clear hy
        by_cases hy : y = 2
        · have hyd : (y == 2) = true := by simpa using hy
          clear hy
          obtain ⟨v0, c0⟩ := (unhide R9).has (i := 0) (by omega)
          have f0 := (unhide R9).1.frozenAt 0
          have RR := hide ((unhide R9).set 0 0 (by unfold i64B; omega))
          have BB := hide ((unhide B9).setCell (p := ⟨g, 0, none⟩) (by show w.heap.size ≤ g; omega) (.int .i64 0))
          have HLS : Hid ((l.set 0 0).length = 8) := by rw [Hid, List.length_set]; exact unhide HLL
          go_wp2_with fail
          go_ret
          exact ⟨⟨g, l.set 0 0, cp, by (rw [unhide HLS]) <;> rfl, by rw [unhide HLS]; exact hcp, by rw [unhide HLS]; omega, by omega, (unhide RR).ints, (unhide RR).2.2.2.2⟩, unhide BB⟩
        · have hyd : (y == 2) = false := by simpa using hy
          clear hy
          go_wp2_with fail
          go_ret
          exact ⟨⟨g, l, cp, by (rw [unhide HLL]) <;> rfl, by rw [unhide HLL]; exact hcp, by rw [unhide HLL]; omega, by omega, (unhide R9).ints, (unhide R9).2.2.2.2⟩, unhide B9⟩
end Go.Proofs.Ytaadbgebcknfkaa
