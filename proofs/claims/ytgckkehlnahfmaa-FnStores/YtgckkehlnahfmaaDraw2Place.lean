/-
  The laws' draws of devices: a place and a value.
-/
import Derived.Test.YtgckkehlnahfmaaDraw2Flush
namespace Go.Proofs.Ytgckkehlnahfmaa
open Go.RowKit
set_option linter.unusedVariables false

theorem SrcTo.drew {w : World} {s : Nat} {a : Option Addr} {n c P : Nat} (h : SrcTo w s a n c P) : SrcTo w.drew s a n c P := h.below ((Below.refl _ _).drew)
theorem Out.drew' {F : Nat → Prop} {w w' : World} (h : Out F w w') : Out F w w'.drew := ⟨h.os, h.tape, h.output, h.size, h.block⟩
set_option maxRecDepth 20000 in
set_option maxHeartbeats 2000000 in
theorem l2Place_any (s : Nat) (a : Option Addr) (n c P d : Nat) (v1 : Value) (a2 a3 : Option Addr) (c2 c3 : Nat) (l m : List (Int × Int)) (t : TypeId) (w : World) (h : SrcTo w s a n c P) (hp : P ≤ 900) (hx : Box w d [v1, .slice a2 l.length c2, .slice a3 m.length c3] t) (h2 : PairsAt w a2 l) (h3 : PairsAt w a3 m) (n2 : l.length ≤ 100) (n3 : m.length ≤ 100) :
    Calls Try.prog 37 #[.pointer (some ⟨s, 0, none⟩), .pointer (some ⟨d, 0, none⟩)] w fun e w' => (∃ v : Int, e = .returned (.int .i64 v)) ∧ SrcTo w' s a n c (P + 3) ∧ Out (fun q => q = s) w w' := by
  have H := hide h
  have hsz := h.lt
  have X := hide hx
  have H2 := hide h2
  have H3 := hide h3
  clear h hx h2 h3
  go_enter Try.func37, Try.ntmps37
  go_wp2_with fail
  refine (l2Cells_any d t v1 a2 a3 c2 c3 l m _ (unhide X) (unhide H2) (unhide H3) (by omega) (by omega)).mono ?_
  rintro r w1 ⟨⟨v, rfl, hO⟩, hb⟩
  obtain ⟨av, cv, ev, hlen, hP, -⟩ := pairsAt_own hO
  have hlt := hO.lt
  subst ev
  have z1 := hb.size
  obtain ⟨L, hL⟩ : ∃ L, L = l ++ m := ⟨_, rfl⟩
  have hLl : L.length ≤ 200 := by rw [hL, List.length_append]; omega
  rw [← hL] at hP hlt
  rw [← hL]
  have S1 := hide ((unhide H).below hb)
  have O1 := hide (Out.ofBelow (F := fun q => q = s) hb)
  have P1 := hide hP
  have HLT := hide hlt
  clear hO hb hP hlt hlen hL H X H2 H3
  by_cases hk : (0 : Int) < L.length
  · have hk' : 0 < L.length := by omega
    go_wp2_with fail
    refine (chanceTo s a n c P 2 _ (unhide S1) (by omega) (by omega) (by omega)).mono ?_
    rintro r w2 ⟨⟨b, rfl⟩, hs2, ho2⟩
    have z2 := ho2.size
    have S2 := hide hs2
    have O2 := hide ((unhide O1).trans ho2 (fun _ _ e => e))
    have OB2 := hide ho2
    clear hs2 ho2 S1 O1
    cases b
    · go_wp2_with fail
      refine (nextTo s a n c (P + 1) 16 _ (unhide S2) (by omega) (by omega) (by omega)).mono ?_
      rintro r w3 ⟨⟨x, rfl, hx0, hx1⟩, hs3, ho3⟩
      have S3 := hide hs3
      have O3 := hide ((unhide O2).trans ho3 (fun _ _ e => e))
      clear hs3 ho3
      go_wp2_with fail
      refine (pickTo s a n c (P + 1 + 1) (fun _ => True) _ _ 6 w3 (unhide S3) (by omega) rfl (by omega) (by omega) (by simp)).mono ?_
      rintro r w4 ⟨⟨y, -, rfl⟩, hs4, ho4⟩
      have S4 := hide hs4
      have O4 := hide ((unhide O3).trans ho4 (fun _ _ e => e))
      clear hs4 ho4
      go_wp2_with fail
      go_ret
      exact ⟨⟨_, rfl⟩, (unhide S4).more (by omega), unhide O4⟩
    · go_wp2_with fail
      refine (nextTo s a n c (P + 1) L.length _ (unhide S2) (by omega) (by omega) (by omega)).mono ?_
      rintro r w3 ⟨⟨x, rfl, hx0, hx1⟩, hs3, ho3⟩
      obtain ⟨j, rfl⟩ := Int.eq_ofNat_of_zero_le hx0
      have hj : j < L.length := by omega
      obtain ⟨b, o, e, hbl, hcs⟩ := (unhide P1).at hj
      subst e
      have hge : w.heap.size ≤ b := (unhide HLT b rfl).1
      have hc := (hcs j hj).1
      have hc3 : w3.cell? ⟨b, o + j * 2, none⟩ = some (.int .i64 L[j].1) := (ho3.cell (by have := z2; omega) (by show ¬ b = s; omega) _).trans (((unhide OB2).cell hbl (by show ¬ b = s; omega) _).trans hc)
      have O3 := hide ((unhide O2).trans ho3 (fun _ _ e => e))
      have S3 := hide hs3
      clear hcs hc ho3 hs3 S2 O2 OB2 P1 HLT
      go_wp2_with fail
      go_ret
      exact ⟨⟨_, rfl⟩, (unhide S3).more (by omega), unhide O3⟩
  · have S2 := S1
    have O2 := O1
    have w2 := w1
    clear S1 O1 w2
    go_wp2_with fail
    refine (nextTo s a n c (P) 16 _ (unhide S2) (by omega) (by omega) (by omega)).mono ?_
    rintro r w3 ⟨⟨x, rfl, hx0, hx1⟩, hs3, ho3⟩
    have S3 := hide hs3
    have O3 := hide ((unhide O2).trans ho3 (fun _ _ e => e))
    clear hs3 ho3
    go_wp2_with fail
    refine (pickTo s a n c (P + 1) (fun _ => True) _ _ 6 w3 (unhide S3) (by omega) rfl (by omega) (by omega) (by simp)).mono ?_
    rintro r w4 ⟨⟨y, -, rfl⟩, hs4, ho4⟩
    have S4 := hide hs4
    have O4 := hide ((unhide O3).trans ho4 (fun _ _ e => e))
    clear hs4 ho4
    go_wp2_with fail
    go_ret
    exact ⟨⟨_, rfl⟩, (unhide S4).more (by omega), unhide O4⟩
theorem resCTT {P : Program} {fn : Func} {p q s : Tmp} {ty : TypeId} (h : fn.results = #[.cell p ty, .tmp q, .tmp s]) (tmps : Array Value) (w : World) (g : Nat) (t : TypeId) (cs : Array Value) (fr : Nat × Nat) (d : TypeDesc) (v u : Value)
    (hp : tmps.getD p undef = .pointer (some ⟨g, 0, none⟩)) (hq : tmps.getD q undef = v) (hs : tmps.getD s undef = u) (hg : w.heap[g]? = some (.cells cs t fr))
    (hu : P.underlying ty = some d) (hd : (match d with | .struct _ | .array _ _ => true | _ => false) = true) (hi : (P.info? ty).map (·.size) = some cs.size) :
    (results fn tmps).run P w = .ok (.tuple #[.agg cs, v, u]) w := by
  have hp' : tmps[p]?.getD undef = .pointer (some ⟨g, 0, none⟩) := by simpa using hp
  have hq' : tmps[q]?.getD undef = v := by simpa using hq
  have hs' : tmps[s]?.getD undef = u := by simpa using hs
  simp [results, h, hp', hq', hs', asAddr, run_loadVar_row w g t ty cs fr d hg hu hd hi]
theorem RDev.drew {w : World} {lo hi : Nat} {a1 a2 a3 : Option Addr} {D : Dev} (h : RDev w lo hi a1 a2 a3 D) : RDev w.drew lo hi a1 a2 a3 D := h.out (F := fun _ => False) ⟨rfl, rfl, rfl, Nat.le_refl _, fun _ _ _ => rfl⟩ (fun _ _ _ h => h)
set_option maxRecDepth 20000 in
set_option maxHeartbeats 4000000 in
theorem drawLoadWord_any (a : Option Addr) (n c : Nat) (w : World) (h : CodeAt w a n) (hn : n ≤ 1048576) :
    Calls Try.prog 10 #[.slice a n c] w fun r w' => (∃ a1 c1 a2 c2 a3 c3 D at_, r = .returned (.tuple #[.agg #[.slice a1 (List.length (Dev.words D)) c1, .slice a2 (List.length (Dev.flights D)) c2, .slice a3 (List.length (Dev.over D)) c3], .int .i64 at_]) ∧ RDev w' w.heap.size w'.heap.size a1 a2 a3 D ∧ Few D) ∧ Below w.heap.size w w' := by
  obtain ⟨W, hW, hWz, HB0, HX0⟩ := boxes1 w [.slice none 0 0, .slice none 0 0, .slice none 0 0] 27
  have H := hide (h.below (unhide HB0))
  clear h
  go_enter Try.func10, Try.ntmps10
  go_wp2_with fail
  rw [← hW]
  clear hW
  refine (l1Source_any a n c _).mono ?_
  rintro r W1 ⟨rfl, hW1⟩
  obtain ⟨hS, hB⟩ := sourceTo hW1 (unhide H) hn
  have z1 := hB.size
  have hslt := hS.lt
  have S1 := hide hS
  have B1 := hide (below_step (unhide HB0) hB (by omega))
  have HX1 := hide ((unhide HX0).below hB)
  clear hS hB hW1 H HB0 HX0
  go_wp2_with fail
  refine (l2Bent_any W.heap.size a n c 0 _ (unhide S1) (by omega)).mono ?_
  rintro r w2 ⟨⟨a1, c1, a2, c2, a3, c3, D, rfl, hR, hF⟩, h2, o2⟩
  have z2 := o2.size
  have S2 := hide h2
  have HX2 := hide ((unhide HX1).out o2 (by show ¬ w.heap.size = W.heap.size; omega))
  have B2 := hide (o2.below (unhide B1) (Nat.le_refl _) (fun q hq e => by omega))
  have R2 := hide hR
  have F2 := hide hF
  clear hR hF h2 o2 S1 HX1 B1
  obtain ⟨W3, hW3, z3, hb3, hx3⟩ := boxes1 w2 [.slice a1 D.words.length c1, .slice a2 D.flights.length c2, .slice a3 D.over.length c3] 27
  have S5 : Hid (SrcTo W3.drew W.heap.size a n c (0 + 70)) := hide ((unhide S2).below (unhide hb3)).drew
  have XD : Hid (Box W3.drew w2.heap.size [.slice a1 D.words.length c1, .slice a2 D.flights.length c2, .slice a3 D.over.length c3] 27) := hide (unhide hx3).drew
  have XA : Hid (Box W3.drew w.heap.size [.slice none 0 0, .slice none 0 0, .slice none 0 0] 27) := hide ((unhide HX2).below (unhide hb3)).drew
  have BD : Hid (Below w.heap.size w W3) := hide (below_step (unhide B2) (unhide hb3) (by omega))
  have RD : Hid (RDev W3.drew W1.heap.size w2.heap.size a1 a2 a3 D) := hide ((unhide R2).below (unhide hb3)).drew
  have O5 : Hid (Out (fun q => q = W.heap.size) W3.drew W3.drew) := hide (Out.refl _ _)
  have hnd : ¬ w2.heap.size = W.heap.size := by omega
  have hna : ¬ w.heap.size = W.heap.size := by omega
  have dz : w2.heap.size < W3.heap.size := by omega
  have az : w.heap.size < W3.heap.size := by omega
  have d0 := (unhide XD).cell 0
  have d1 := (unhide XD).cell 1
  have d2 := (unhide XD).cell 2
  simp only [List.getElem?_cons_zero, List.getElem?_cons_succ] at d0 d1 d2
  clear S2 HX2 B2 R2 hb3 hx3
  go_wp2_with fail
  rw [← hW3]
  clear hW3
  go_region_with (go_at_call 37; refine (l2Place_any W.heap.size a n c (0 + 70) w2.heap.size _ a2 a3 c2 c3 D.flights D.over _ _ (unhide S5) (by omega) (unhide XD) (unhide RD).r.r2 (unhide RD).r.r3 (unhide F2).2.1 (unhide F2).2.2).mono ?_; rintro r w5 ⟨⟨at_, rfl⟩, hs5, ho5⟩; have z5 := ho5.size; have O5 := hide ((unhide O5).trans ho5 (fun _ _ e => e)); have S5 := hide hs5; have d0 := ((unhide XD).out (unhide O5) hnd).cell 0; have d1 := ((unhide XD).out (unhide O5) hnd).cell 1; have d2 := ((unhide XD).out (unhide O5) hnd).cell 2; have q0 := ((unhide XA).out (unhide O5) hna).cell 0; have q1 := ((unhide XA).out (unhide O5) hna).cell 1; have q2 := ((unhide XA).out (unhide O5) hna).cell 2; have f0 := ((unhide XA).out (unhide O5) hna).frozen 0; have f1 := ((unhide XA).out (unhide O5) hna).frozen 1; have f2 := ((unhide XA).out (unhide O5) hna).frozen 2; simp only [List.getElem?_cons_zero, List.getElem?_cons_succ] at d0 d1 d2 q0 q1 q2; have dz5 : w2.heap.size < w5.heap.size := Nat.lt_of_lt_of_le dz (unhide O5).size; have az5 : w.heap.size < w5.heap.size := Nat.lt_of_lt_of_le az (unhide O5).size; clear hs5 ho5)
  all_goals
    clear d0 d1 d2 q0 q1 q2 f0 f1 f2
    generalize hU : ((w5.setCell _ _).setCell _ _).setCell _ _ = U at *
    obtain ⟨XU, OU⟩ := store3' ((unhide XA).out (unhide O5) hna) hU
    have zU := (unhide OU).size
    have B6 : Below w.heap.size w w5 := ((unhide O5).below (w0 := w) (B := w.heap.size) (unhide BD).drew (Nat.le_refl _) (fun q hq e => by omega))
    have BU := hide ((unhide OU).below B6 (Nat.le_refl _) (fun q hq e => by omega))
    have RU := hide ((((unhide RD).out (unhide O5) (fun q h1 h2 e => by omega)).out (unhide OU) (fun q h1 h2 e => by omega)).wide (lo' := w.heap.size) (hi' := U.heap.size) (by omega) (by have := (unhide O5).size; simp at this; omega))
    clear hU OU B6
    go_wp2_with fail
    refine bodyPost_ret (resCT Try.results10 _ U w.heap.size 27 _ (0, 0) _ _ rfl rfl (unhide XU) Try.underlying27 rfl (by kernel_rfl)) rfl ⟨⟨_, _, _, _, _, _, D, _, rfl, unhide RU, unhide F2⟩, unhide BU⟩
set_option maxRecDepth 20000 in
set_option maxHeartbeats 4000000 in
theorem drawStoreWord_any (a : Option Addr) (n c : Nat) (w : World) (h : CodeAt w a n) (hn : n ≤ 1048576) :
    Calls Try.prog 8 #[.slice a n c] w fun r w' => (∃ a1 c1 a2 c2 a3 c3 D at_ val, r = .returned (.tuple #[.agg #[.slice a1 (List.length (Dev.words D)) c1, .slice a2 (List.length (Dev.flights D)) c2, .slice a3 (List.length (Dev.over D)) c3], .int .i64 at_, .int .i64 val]) ∧ RDev w' w.heap.size w'.heap.size a1 a2 a3 D ∧ Few D) ∧ Below w.heap.size w w' := by
  obtain ⟨W, hW, hWz, HB0, HX0⟩ := boxes1 w [.slice none 0 0, .slice none 0 0, .slice none 0 0] 27
  have H := hide (h.below (unhide HB0))
  clear h
  go_enter Try.func8, Try.ntmps8
  go_wp2_with fail
  rw [← hW]
  clear hW
  refine (l1Source_any a n c _).mono ?_
  rintro r W1 ⟨rfl, hW1⟩
  obtain ⟨hS, hB⟩ := sourceTo hW1 (unhide H) hn
  have z1 := hB.size
  have hslt := hS.lt
  have S1 := hide hS
  have B1 := hide (below_step (unhide HB0) hB (by omega))
  have HX1 := hide ((unhide HX0).below hB)
  clear hS hB hW1 H HB0 HX0
  go_wp2_with fail
  refine (l2Bent_any W.heap.size a n c 0 _ (unhide S1) (by omega)).mono ?_
  rintro r w2 ⟨⟨a1, c1, a2, c2, a3, c3, D, rfl, hR, hF⟩, h2, o2⟩
  have z2 := o2.size
  have S2 := hide h2
  have HX2 := hide ((unhide HX1).out o2 (by show ¬ w.heap.size = W.heap.size; omega))
  have B2 := hide (o2.below (unhide B1) (Nat.le_refl _) (fun q hq e => by omega))
  have R2 := hide hR
  have F2 := hide hF
  clear hR hF h2 o2 S1 HX1 B1
  obtain ⟨W3, hW3, z3, hb3, hx3⟩ := boxes1 w2 [.slice a1 D.words.length c1, .slice a2 D.flights.length c2, .slice a3 D.over.length c3] 27
  have S5 : Hid (SrcTo W3.drew W.heap.size a n c (0 + 70)) := hide ((unhide S2).below (unhide hb3)).drew
  have XD : Hid (Box W3.drew w2.heap.size [.slice a1 D.words.length c1, .slice a2 D.flights.length c2, .slice a3 D.over.length c3] 27) := hide (unhide hx3).drew
  have XA : Hid (Box W3.drew w.heap.size [.slice none 0 0, .slice none 0 0, .slice none 0 0] 27) := hide ((unhide HX2).below (unhide hb3)).drew
  have BD : Hid (Below w.heap.size w W3) := hide (below_step (unhide B2) (unhide hb3) (by omega))
  have RD : Hid (RDev W3.drew W1.heap.size w2.heap.size a1 a2 a3 D) := hide ((unhide R2).below (unhide hb3)).drew
  have O5 : Hid (Out (fun q => q = W.heap.size) W3.drew W3.drew) := hide (Out.refl _ _)
  have hnd : ¬ w2.heap.size = W.heap.size := by omega
  have hna : ¬ w.heap.size = W.heap.size := by omega
  have dz : w2.heap.size < W3.heap.size := by omega
  have az : w.heap.size < W3.heap.size := by omega
  have d0 := (unhide XD).cell 0
  have d1 := (unhide XD).cell 1
  have d2 := (unhide XD).cell 2
  simp only [List.getElem?_cons_zero, List.getElem?_cons_succ] at d0 d1 d2
  clear S2 HX2 B2 R2 hb3 hx3
  go_wp2_with fail
  rw [← hW3]
  clear hW3
  go_region_with (first
    | (go_at_call 37; refine (l2Place_any W.heap.size a n c (0 + 70) w2.heap.size _ a2 a3 c2 c3 D.flights D.over _ _ (unhide S5) (by omega) (unhide XD) (unhide RD).r.r2 (unhide RD).r.r3 (unhide F2).2.1 (unhide F2).2.2).mono ?_; rintro r w5 ⟨⟨at_, rfl⟩, hs5, ho5⟩; have z5 := ho5.size; have O5 := hide ((unhide O5).trans ho5 (fun _ _ e => e)); have S5 := hide hs5; have d0 := ((unhide XD).out (unhide O5) hnd).cell 0; have d1 := ((unhide XD).out (unhide O5) hnd).cell 1; have d2 := ((unhide XD).out (unhide O5) hnd).cell 2; have q0 := ((unhide XA).out (unhide O5) hna).cell 0; have q1 := ((unhide XA).out (unhide O5) hna).cell 1; have q2 := ((unhide XA).out (unhide O5) hna).cell 2; have f0 := ((unhide XA).out (unhide O5) hna).frozen 0; have f1 := ((unhide XA).out (unhide O5) hna).frozen 1; have f2 := ((unhide XA).out (unhide O5) hna).frozen 2; simp only [List.getElem?_cons_zero, List.getElem?_cons_succ] at d0 d1 d2 q0 q1 q2; have dz5 : w2.heap.size < w5.heap.size := Nat.lt_of_lt_of_le dz (unhide O5).size; have az5 : w.heap.size < w5.heap.size := Nat.lt_of_lt_of_le az (unhide O5).size; clear hs5 ho5)
    | (go_at_call 39; refine (l2Value_any W.heap.size a n c _ _ (unhide S5) (by omega)).mono ?_; rintro r w5 ⟨⟨val, rfl, hv0, hv1⟩, hs5, ho5⟩; have z5 := ho5.size; have O5 := hide ((unhide O5).trans ho5 (fun _ _ e => e)); have S5 := hide hs5; have d0 := ((unhide XD).out (unhide O5) hnd).cell 0; have d1 := ((unhide XD).out (unhide O5) hnd).cell 1; have d2 := ((unhide XD).out (unhide O5) hnd).cell 2; have q0 := ((unhide XA).out (unhide O5) hna).cell 0; have q1 := ((unhide XA).out (unhide O5) hna).cell 1; have q2 := ((unhide XA).out (unhide O5) hna).cell 2; have f0 := ((unhide XA).out (unhide O5) hna).frozen 0; have f1 := ((unhide XA).out (unhide O5) hna).frozen 1; have f2 := ((unhide XA).out (unhide O5) hna).frozen 2; simp only [List.getElem?_cons_zero, List.getElem?_cons_succ] at d0 d1 d2 q0 q1 q2; have dz5 : w2.heap.size < w5.heap.size := Nat.lt_of_lt_of_le dz (unhide O5).size; have az5 : w.heap.size < w5.heap.size := Nat.lt_of_lt_of_le az (unhide O5).size; clear hs5 ho5)
    | (go_at_call 38; refine (pickTo W.heap.size a n c _ (fun _ => True) _ _ 5 _ (unhide S5) (by omega) rfl (by omega) (by omega) (by simp)).mono ?_; rintro r w5 ⟨⟨val, -, rfl⟩, hs5, ho5⟩; have z5 := ho5.size; have O5 := hide ((unhide O5).trans ho5 (fun _ _ e => e)); have S5 := hide hs5; have d0 := ((unhide XD).out (unhide O5) hnd).cell 0; have d1 := ((unhide XD).out (unhide O5) hnd).cell 1; have d2 := ((unhide XD).out (unhide O5) hnd).cell 2; have q0 := ((unhide XA).out (unhide O5) hna).cell 0; have q1 := ((unhide XA).out (unhide O5) hna).cell 1; have q2 := ((unhide XA).out (unhide O5) hna).cell 2; have f0 := ((unhide XA).out (unhide O5) hna).frozen 0; have f1 := ((unhide XA).out (unhide O5) hna).frozen 1; have f2 := ((unhide XA).out (unhide O5) hna).frozen 2; simp only [List.getElem?_cons_zero, List.getElem?_cons_succ] at d0 d1 d2 q0 q1 q2; have dz5 : w2.heap.size < w5.heap.size := Nat.lt_of_lt_of_le dz (unhide O5).size; have az5 : w.heap.size < w5.heap.size := Nat.lt_of_lt_of_le az (unhide O5).size; clear hs5 ho5))
  all_goals
    clear d0 d1 d2 q0 q1 q2 f0 f1 f2
    generalize hU : ((w5.setCell _ _).setCell _ _).setCell _ _ = U at *
    obtain ⟨XU, OU⟩ := store3' ((unhide XA).out (unhide O5) hna) hU
    have zU := (unhide OU).size
    have B6 : Below w.heap.size w w5 := ((unhide O5).below (w0 := w) (B := w.heap.size) (unhide BD).drew (Nat.le_refl _) (fun q hq e => by omega))
    have BU := hide ((unhide OU).below B6 (Nat.le_refl _) (fun q hq e => by omega))
    have RU := hide ((((unhide RD).out (unhide O5) (fun q h1 h2 e => by omega)).out (unhide OU) (fun q h1 h2 e => by omega)).wide (lo' := w.heap.size) (hi' := U.heap.size) (by omega) (by have := (unhide O5).size; simp at this; omega))
    clear hU OU B6
    go_wp2_with fail
    refine bodyPost_ret (resCTT Try.results8 _ U w.heap.size 27 _ (0, 0) _ _ _ rfl rfl rfl (unhide XU) Try.underlying27 rfl (by kernel_rfl)) rfl ⟨⟨_, _, _, _, _, _, D, _, _, rfl, unhide RU, unhide F2⟩, unhide BU⟩
end Go.Proofs.Ytgckkehlnahfmaa
