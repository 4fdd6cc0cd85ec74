/-
  The laws' draws of devices: one that may be wrong.
-/
import Derived.Test.YtdnfadbkpajloaaDraw2Walk
import Derived.Deep.RegionLaw
namespace Go.Proofs.Ytdnfadbkpajloaa
open Go.RowKit
set_option linter.unusedVariables false

theorem ints_drop1 {w : World} {g : Nat} {ws : List Int} (h : IntsAt w (some ⟨g, 0, none⟩) ws) (hl : 2 ≤ ws.length) : IntsAt w (some ⟨g, 1, none⟩) (ws.drop 1) := by
  obtain ⟨b, o, e, hb, hc⟩ := h.at (k := 0) (by omega)
  cases e
  refine .inr ⟨g, 1, rfl, hb, fun i hi => ?_⟩
  rw [List.length_drop] at hi
  have := hc (1 + i) (by omega)
  rw [Nat.zero_add] at this
  rw [this]
  have e : 1 + i = i + 1 := by omega
  simp [e]
theorem ints_take8 {w : World} {g : Nat} {ws : List Int} (h : IntsAt w (some ⟨g, 0, none⟩) ws) (hl : 8 ≤ ws.length) : IntsAt w (some ⟨g, 0, none⟩) (ws.take 8) := by
  obtain ⟨b, o, e, hb, hc⟩ := h.at (k := 0) (by omega)
  cases e
  refine .inr ⟨g, 0, rfl, hb, fun i hi => ?_⟩
  rw [List.length_take] at hi
  have := hc i (by omega)
  rw [this]
  simp
theorem RDev.words {w : World} {lo hi g k : Nat} {a2 a3 : Option Addr} {D : Dev} {l : List Int} (h : RDev w lo hi (some ⟨g, 0, none⟩) a2 a3 D) (hn : D.words ≠ []) (hl : IntsAt w (some ⟨g, k, none⟩) l) : RDev w lo hi (some ⟨g, k, none⟩) a2 a3 ⟨l, D.flights, D.over⟩ :=
  ⟨⟨hl, h.r.r2, h.r.r3⟩, fun _ x hx => by injection hx with hx; subst hx; exact h.b1 hn ⟨g, 0, none⟩ rfl, h.b2, h.b3⟩
theorem SDev.rd {w : World} {base n1 c1 n2 c2 n3 c3 : Nat} {a1 a2 a3 : Option Addr} {D : Dev} (h : SDev w base (.slice a1 n1 c1) (.slice a2 n2 c2) (.slice a3 n3 c3) D) : RDev w base w.heap.size a1 a2 a3 D := by
  obtain ⟨q1, q2, q3, q4, q5, q6, e1, e2, e3, hR⟩ := h.toR
  injection e1 with e1
  injection e2 with e2
  injection e3 with e3
  subst e1 e2 e3
  exact hR
theorem pickBox (s : Nat) (a : Option Addr) (n c P : Nat) (cs : List Value) (t : TypeId) (bl m : Nat) (w : World) (h : SrcTo w s a n c P) (hp : P ≤ 1000000) (hx : Box w bl cs t) (hm : cs.length = m) (h1 : 1 ≤ m) (h2 : m ≤ 1000) (hP : ∀ x, x ∈ cs → ∃ v : Int, x = .int .i64 v) (hne : bl ≠ s) :
    Calls Try.prog 69 #[.pointer (some ⟨s, 0, none⟩), .slice (some ⟨bl, 0, none⟩) m m] w fun e w' => (∃ v : Int, e = .returned (.int .i64 v)) ∧ SrcTo w' s a n c (P + 1) ∧ Out (fun q => q = s) w w' := by
  obtain ⟨p, hp', h⟩ := h
  refine (l1Pick_any s a n c p (fun _ => True) bl m m w h (by omega) h1 h2 (fun i hi => ?_) hne).mono ?_
  · have hi2 : i < cs.length := by omega
    obtain ⟨v, hv⟩ := hP _ (List.getElem_mem hi2)
    refine ⟨cs[i], ⟨v, trivial, hv⟩, ?_⟩
    rw [hx.cell i, List.getElem?_eq_getElem hi2]
  · rintro e w' ⟨⟨v, -, rfl⟩, h3, h4⟩
    exact ⟨⟨v, rfl⟩, ⟨p + 1, by omega, h3⟩, h4.out⟩
theorem box_new1 (w : World) (o : Obj) (cs : List Value) (t : TypeId) : Box ((w.alloc o).alloc (.cells cs.toArray t)) (w.heap.size + 1) cs t := by
  have := box_new (w.alloc o) cs t
  rwa [World.size_alloc] at this
theorem Box.drew' {w : World} {b : Nat} {cs : List Value} {t : TypeId} (h : Box w b cs t) : Box w.drew b cs t := h
theorem step_append_rowW {P : Program} {w : World} {ops : Array Oper} {o : Oper} {a : Act} {K : Act → World → Prop} {Q : Exit → Act → World → Prop} {E : Prop} (hgd : o.guard = none) (s x : Operand) (t : TypeId)
    (ho : o.op = .call { callee := .builtin .append, args := #[s, x], argTypes := #[t, t] })
    (base : Nat) (i : TypeInfo) (z : Value) (ht : P.underlying t = some (.slice 42)) (hi : P.info? 42 = some i) (hz : i.zero = some z) (hsize : i.size = 2) (hby : i.bytes = 16) (hzs : z.cells.size = 2)
    (v : Value) (l : List (Int × Int)) (hs : a.eval s = v) (hr : RowW w base v l) (ad : Option Addr) (c : Nat) (m : List (Int × Int)) (hx : a.eval x = .slice ad m.length c) (hp : PairsAt w ad m) (hm : m ≠ []) (hn : l.length + m.length ≤ 100000000) (hbase : base ≤ w.heap.size)
    (h : ∀ a' c' w', RowW w' base (.slice a' (l ++ m).length c') (l ++ m) → Out (fun q => l ≠ [] ∧ v.ownBlock = some q) w w' → ((l ≠ [] ∧ (Value.slice a' (l ++ m).length c').ownBlock = v.ownBlock) ∨ ∃ q, (Value.slice a' (l ++ m).length c').ownBlock = some q ∧ w.heap.size ≤ q) → K (a.put o.dst (.slice a' (l ++ m).length c')) w') :
    if Region.wanted o (yielded ops a.tmps) = true then Oper.wp P o a w K Q else E := by
  have hw : Region.wanted o (yielded ops a.tmps) = true := by simp [Region.wanted, hgd]
  rw [if_pos hw]
  obtain ⟨v', w', hr, h2, h3, h4⟩ := run_append_row (P := P) w base t o.type i z ht hi hz hsize hby hzs v l hr ad c m hp hm hn hbase
  unfold Oper.wp execOp
  simp only [ho, resolve, invoke, builtin, Sem.run_bind, Sem.run_pure, Result.andThen_ok, List.map_toArray, List.map_cons, List.map_nil, hs, hx, hr]
  obtain ⟨a', c', e, -⟩ := h2.form
  subst e
  exact h a' c' w' h2 h3 h4
/-- A device of at most 100 words, and of at most 100 cells in each list. -/
def Few (D : Dev) : Prop := D.words.length ≤ 100 ∧ D.flights.length ≤ 100 ∧ D.over.length ≤ 100
def BentIs (e : Ending) (lo : Nat) (w' : World) : Prop := ∃ a1 c1 a2 c2 a3 c3 D, e = .returned (.agg #[.slice a1 D.words.length c1, .slice a2 D.flights.length c2, .slice a3 D.over.length c3]) ∧ RDev w' lo w'.heap.size a1 a2 a3 D ∧ Few D

set_option maxRecDepth 20000 in
set_option maxHeartbeats 8000000 in
theorem l2Bent_any (s : Nat) (a : Option Addr) (n c P : Nat) (w : World) (h : SrcTo w s a n c P) (hp : P ≤ 600) :
    Calls Try.prog 66 #[.pointer (some ⟨s, 0, none⟩)] w fun e w' => BentIs e w.heap.size w' ∧ SrcTo w' s a n c (P + 70) ∧ Out (fun q => q = s) w w' := by
  have H := hide h
  have hsz := h.lt
  clear h
  go_enter Try.func66, Try.ntmps66
  go_wp2_with fail
  obtain ⟨W, hW, z1, hb, hx⟩ := boxes1 w [.slice none 0 0, .slice none 0 0, .slice none 0 0] 27
  rw [← hW]
  clear hW
  refine (l2Draw_any s a n c P _ ((unhide H).below (unhide hb)) (by omega)).mono ?_
  rintro r w1 ⟨⟨v1, v2, v3, D, rfl, hS, hSm⟩, hs1, ho1⟩
  have hgs := hSm.good.small
  have hcn := hSm.cells
  have hwn := hSm.words
  unfold cellsN at hcn
  obtain ⟨g, c1, e1⟩ : ∃ g c1, v1 = .slice (some ⟨g, 0, none⟩) D.words.length c1 := by
    rcases hS.o1.2 with ⟨_, h0⟩ | ⟨g, cap, cur, e, _⟩
    · omega
    · exact ⟨g, cap, e⟩
  obtain ⟨a2, c2, e2, -⟩ := hS.o2.form
  obtain ⟨a3, c3, e3, -⟩ := hS.o3.form
  subst e1 e2 e3
  have hcap : D.words.length ≤ c1 ∧ c1 ≤ maxLen := by
    obtain ⟨_, _, e, -, -, h1, h2⟩ := intsAt_own hS.o1
    injection e with _ _ e
    subst e
    exact ⟨h1, h2⟩
  have z2 := ho1.size
  obtain ⟨W2, hW2, z3, hb2, hx2⟩ := boxes1 w1 [.slice (some ⟨g, 0, none⟩) D.words.length c1, .slice a2 D.flights.length c2, .slice a3 D.over.length c3] 27
  have H2 := hide (SrcTo.below hs1 (unhide hb2))
  have O2 := hide (((Out.ofBelow (F := fun q => q = s) (unhide hb)).trans ho1 (fun _ _ e => e)).trans (Out.ofBelow (F := fun q => q = s) (unhide hb2)) (fun _ _ e => e))
  have X2 := hide (((unhide hx).out ho1 (fun e => by omega)).below (unhide hb2))
  have S2 := hide (hS.below (unhide hb2))
  have SL := hide (fun q hq => SDev.lt (q := q) hS hq)
  obtain ⟨q1, q2, q3, q4, q5, q6, e1, e2, e3, hR⟩ := hS.toR
  injection e1 with e1 _ e1'
  injection e2 with e2 _ e2'
  injection e3 with e3 _ e3'
  subst e1 e1' e2 e2' e3 e3'
  have R2 := hide (hR.below (unhide hb2))
  clear hR
  have G2 := hide hSm
  clear hs1 ho1 hb hx hb2 hS hSm H
  go_wp2_with fail
  rw [← hW2]
  clear hW2
  refine (nextTo s a n c (P + 60) 16 _ (unhide H2) (by omega) (by omega) (by omega)).mono ?_
  rintro r w3 ⟨⟨x, rfl, hx0, hx1⟩, hs3, ho3⟩
  have z4 := ho3.size
  have H3 := hide hs3
  have O3 := hide ((unhide O2).trans ho3 (fun _ _ e => e))
  have X3 := hide ((unhide X2).out ho3 (fun e => by omega))
  have D3 := hide ((unhide hx2).out ho3 (fun e => by omega))
  have S3 := hide ((unhide S2).out ho3 (fun q hq e => by have := (unhide SL q hq).1; omega))
  have HO3 := ho3
  clear hs3 H2 O2 X2 S2 hx2
  have R3 := hide ((unhide R2).out HO3 (fun q h1 h2 e => by omega))
  clear HO3 ho3 R2
  have m1 : (1 : Int) ≤ D.words.length := by omega
  have m3 : (3 : Int) < D.words.length := by omega
  have m8 : (8 : Int) ≤ D.words.length := by omega
  have hc16 : 16 ≤ c1 := by omega
  have hcmx : c1 ≤ 9223372036854775807 := by have := hcap.2; unfold maxLen at this; omega
  cases b0 : (x == 0)
  case true =>
    clear hx0 hx1
    have d0 := (unhide D3).cell 0
    have d1 := (unhide D3).cell 1
    have d2 := (unhide D3).cell 2
    have df := (unhide D3).frozen 0
    have y0 := (unhide X3).cell 0
    have y1 := (unhide X3).cell 1
    have y2 := (unhide X3).cell 2
    have f0 := (unhide X3).frozen 0
    have f1 := (unhide X3).frozen 1
    have f2 := (unhide X3).frozen 2
    simp at d0 d1 d2 y0 y1 y2
    have c1i : (1 : Int) < c1 := by omega
    have c1n : 1 < c1 := by omega
    have c8i : (8 : Int) ≤ c1 := by omega
    have hne : w.heap.size ≠ w1.heap.size := by omega
    go_wp2_with fail
    clear d0 d1 d2 df y0 y1 y2 f0 f1 f2
    generalize hU0 : w3.setCell _ _ = U0
    have O0 : Out (fun q => q = w1.heap.size) w3 U0 := out_set' (Out.refl _ _) hU0 (.inl rfl)
    have z5 := O0.size
    have X4 := hide ((unhide X3).out O0 (fun e => by omega))
    have O4 := hide ((unhide O3).trans O0 (fun q hq e => by omega))
    have H4 := hide ((unhide H3).above O0 (fun q e => by omega))
    have R4 := (unhide R3).out O0 (fun q h1 h2 e => by omega)
    have hwn0 : D.words ≠ [] := fun e => by rw [e] at hgs; simp at hgs
    have R5 := hide (R4.words hwn0 (ints_drop1 R4.r.r1 (by omega)))
    generalize hU : ((U0.setCell _ _).setCell _ _).setCell _ _ = U
    obtain ⟨XU, OU⟩ := store3' (unhide X4) hU
    have t0 := (unhide XU).cell 0
    have t1 := (unhide XU).cell 1
    have t2 := (unhide XU).cell 2
    simp at t0 t1 t2
    have zU := (unhide OU).size
    have OO := (unhide O4).trans (unhide OU) (fun q hq e => by omega)
    have HH := (unhide H4).above (unhide OU) (fun q e => by omega)
    have RR := ((unhide R5).out (unhide OU) (fun q h1 h2 e => by omega)).wide (lo' := w.heap.size) (hi' := U.heap.size) (by omega) (by omega)
    refine bodyPost_ret (v := .agg #[.slice (some ⟨g, 1, none⟩) (D.words.length - 1) (c1 - 1), .slice a2 D.flights.length c2, .slice a3 D.over.length c3]) (by simp [results, Try.results66, go_sem, t0, t1, t2]) rfl ⟨⟨_, c1 - 1, a2, c2, a3, c3, ⟨D.words.drop 1, D.flights, D.over⟩, ?_, RR, ?_⟩, HH.more (by omega), OO⟩
    · simp; try omega
    · refine ⟨?_, by show D.flights.length ≤ 100; omega, by show D.over.length ≤ 100; omega⟩
      simp; omega
  cases b1 : (x == 1)
  case true =>
    clear hx0 hx1
    have d0 := (unhide D3).cell 0
    have d1 := (unhide D3).cell 1
    have d2 := (unhide D3).cell 2
    have df := (unhide D3).frozen 0
    have y0 := (unhide X3).cell 0
    have y1 := (unhide X3).cell 1
    have y2 := (unhide X3).cell 2
    have f0 := (unhide X3).frozen 0
    have f1 := (unhide X3).frozen 1
    have f2 := (unhide X3).frozen 2
    simp at d0 d1 d2 y0 y1 y2
    have c1i : (1 : Int) < c1 := by omega
    have c1n : 1 < c1 := by omega
    have c8i : (8 : Int) ≤ c1 := by omega
    have hne : w.heap.size ≠ w1.heap.size := by omega
    go_wp2_with fail
    clear d0 d1 d2 df y0 y1 y2 f0 f1 f2
    generalize hU0 : w3.setCell _ _ = U0
    have O0 : Out (fun q => q = w1.heap.size) w3 U0 := out_set' (Out.refl _ _) hU0 (.inl rfl)
    have z5 := O0.size
    have X4 := hide ((unhide X3).out O0 (fun e => by omega))
    have O4 := hide ((unhide O3).trans O0 (fun q hq e => by omega))
    have H4 := hide ((unhide H3).above O0 (fun q e => by omega))
    have R4 := (unhide R3).out O0 (fun q h1 h2 e => by omega)
    have hwn0 : D.words ≠ [] := fun e => by rw [e] at hgs; simp at hgs
    have R5 := hide (R4.words hwn0 (ints_take8 R4.r.r1 (by omega)))
    generalize hU : ((U0.setCell _ _).setCell _ _).setCell _ _ = U
    obtain ⟨XU, OU⟩ := store3' (unhide X4) hU
    have t0 := (unhide XU).cell 0
    have t1 := (unhide XU).cell 1
    have t2 := (unhide XU).cell 2
    simp at t0 t1 t2
    have zU := (unhide OU).size
    have OO := (unhide O4).trans (unhide OU) (fun q hq e => by omega)
    have HH := (unhide H4).above (unhide OU) (fun q e => by omega)
    have RR := ((unhide R5).out (unhide OU) (fun q h1 h2 e => by omega)).wide (lo' := w.heap.size) (hi' := U.heap.size) (by omega) (by omega)
    refine bodyPost_ret (v := .agg #[.slice (some ⟨g, 0, none⟩) 8 c1, .slice a2 D.flights.length c2, .slice a3 D.over.length c3]) (by simp [results, Try.results66, go_sem, t0, t1, t2]) rfl ⟨⟨_, c1, a2, c2, a3, c3, ⟨D.words.take 8, D.flights, D.over⟩, ?_, RR, ?_⟩, HH.more (by omega), OO⟩
    · simp; try omega
    · refine ⟨?_, by show D.flights.length ≤ 100; omega, by show D.over.length ≤ 100; omega⟩
      simp; omega
  cases b2 : (x == 2)
  case true =>
    clear hx0 hx1
    have d0 := (unhide D3).cell 0
    have w0 := (unhide S3).o1.cellAt 3 (by omega)
    have wf := (unhide S3).o1.frozenAt 3
    rw [nums_at (by omega)] at w0
    simp at d0
    have dz : w1.heap.size < w3.heap.size := by omega
    have gz : g < w3.heap.size := by have := (unhide SL g (.inl rfl)).2; omega
    have gne : g ≠ s := by have := (unhide SL g (.inl rfl)).1; omega
    have HD : Hid (SrcTo w3.drew s a n c (P + 61)) := (unhide H3).below ((Below.refl _ _).drew)
    have SD : Hid (SDev w3.drew W.heap.size (.slice (some ⟨g, 0, none⟩) D.words.length c1) (.slice a2 D.flights.length c2) (.slice a3 D.over.length c3) D) := (unhide S3).stay (fun _ _ _ => rfl)
    have BD : Hid (Box w3.drew w1.heap.size [.slice (some ⟨g, 0, none⟩) D.words.length c1, .slice a2 D.flights.length c2, .slice a3 D.over.length c3] 27) := unhide D3
    have XD : Hid (Box w3.drew w.heap.size [.slice none 0 0, .slice none 0 0, .slice none 0 0] 27) := unhide X3
    have OD : Hid (Out (fun q => q = s) w w3.drew) := (unhide O3).trans (Out.ofBelow (F := fun q => q = s) ((Below.refl _ _).drew)) (fun _ _ e => e)
    go_wp2_with fail
    go_region_with (go_at_call 69; refine (pickTo s a n c (P + 61) (fun v => True) _ _ 3 _ (unhide HD) (by omega) rfl (by omega) (by omega) (by simp)).mono ?_; rintro r w5 ⟨⟨v, -, rfl⟩, hs5, ho5⟩; have H5 := hide hs5; have S5 := hide ((unhide SD).out ho5 (fun q hq e => by have := (unhide SL q hq).1; omega)); have D5 := hide ((unhide BD).out ho5 (fun e => by omega)); have X5 := hide ((unhide XD).out ho5 (fun e => by omega)); have O5 := hide ((unhide OD).trans ho5 (fun _ _ e => e)); have z5 := ho5.size; have e0 := (unhide D5).cell 0; have u0 := (unhide S5).o1.cellAt 3 (by omega); have uf := (unhide S5).o1.frozenAt 3; rw [nums_at (by omega)] at u0; simp at e0; clear hs5 ho5)
    all_goals
      clear d0 w0 wf e0 u0 uf
      generalize hU0 : w5.setCell _ _ = U0
      have O0 : Out (fun q => q = g) w5 U0 := out_set' (Out.refl _ _) hU0 (.inl rfl)
      have z6 := O0.size
      have gl := unhide SL g (.inl rfl)
      have M6 : SMem U0 W.heap.size w1.heap.size 27 (.slice (some ⟨g, 0, none⟩) D.words.length c1) (.slice a2 D.flights.length c2) (.slice a3 D.over.length c3) ⟨D.words.set 3 v, D.flights, D.over⟩ := by
        rw [← hU0]
        exact SMem.setWord (⟨unhide D5, unhide S5, fun q hq e => by have := (unhide SL q hq).2; omega⟩ : SMem w5 W.heap.size w1.heap.size 27 (.slice (some ⟨g, 0, none⟩) D.words.length c1) (.slice a2 D.flights.length c2) (.slice a3 D.over.length c3) D)
      have DB := hide M6.box
      have RB := hide M6.dev.rd
      have X6 := hide ((unhide X5).out O0 (fun e => by omega))
      have O6 := hide ((unhide O5).trans O0 (fun q hq e => by omega))
      have H6 := hide ((unhide H5).above O0 (fun q e => by omega))
      clear M6 HD SD BD XD OD H5 S5 D5 X5 O5 hU0 O0
      have b0 := (unhide DB).cell 0
      have b1 := (unhide DB).cell 1
      have b2 := (unhide DB).cell 2
      have y0 := (unhide X6).cell 0
      have y1 := (unhide X6).cell 1
      have y2 := (unhide X6).cell 2
      have f0 := (unhide X6).frozen 0
      have f1 := (unhide X6).frozen 1
      have f2 := (unhide X6).frozen 2
      simp at b0 b1 b2 y0 y1 y2
      go_wp2_with fail
      clear y0 y1 y2 f0 f1 f2 b0 b1 b2
      generalize hU : ((U0.setCell _ _).setCell _ _).setCell _ _ = U
      obtain ⟨XU, OU⟩ := store3' (unhide X6) hU
      have t0 := (unhide XU).cell 0
      have t1 := (unhide XU).cell 1
      have t2 := (unhide XU).cell 2
      simp at t0 t1 t2
      have zU := (unhide OU).size
      have OO := (unhide O6).trans (unhide OU) (fun q hq e => by omega)
      have HH := (unhide H6).above (unhide OU) (fun q e => by omega)
      have RR := ((unhide RB).out (unhide OU) (fun q h1 h2 e => by omega)).wide (lo' := w.heap.size) (hi' := U.heap.size) (by omega) (by omega)
      refine bodyPost_ret (v := .agg #[.slice (some ⟨g, 0, none⟩) D.words.length c1, .slice a2 D.flights.length c2, .slice a3 D.over.length c3]) (by simp [results, Try.results66, go_sem, t0, t1, t2]) rfl ⟨⟨some ⟨g, 0, none⟩, c1, a2, c2, a3, c3, ⟨D.words.set 3 v, D.flights, D.over⟩, by simp, RR, ⟨by simp; omega, by show D.flights.length ≤ 100; omega, by show D.over.length ≤ 100; omega⟩⟩, HH.more (by omega), OO⟩
  cases b3 : (x == 3)
  case true =>
    clear hx0 hx1
    obtain ⟨i0, hii, hz0, hz1, hz2⟩ := info_parts infoCell
    have d1 := (unhide D3).cell 2
    simp at d1
    have dz : w1.heap.size < w3.heap.size := by omega
    have hs3 : s < w3.heap.size := by omega
    have BVa : Hid (Below w3.heap.size w3 (w3.alloc (.cells #[.int .i64 0, .int .i64 3, .int .i64 40, .int .i64 (-1)] 2)).drew) := ((Below.refl _ _).alloc (Nat.le_refl _) _).drew
    have PKa : Hid (Calls Try.prog 69 #[.pointer (some ⟨s, 0, none⟩), .slice (some ⟨w3.heap.size, 0, none⟩) 4 4] ((w3.alloc (.cells #[.int .i64 0, .int .i64 3, .int .i64 40, .int .i64 (-1)] 2)).drew) fun e w' => (∃ v : Int, e = .returned (.int .i64 v)) ∧ SrcTo w' s a n c (P + 61 + 1) ∧ Out (fun q => q = s) ((w3.alloc (.cells #[.int .i64 0, .int .i64 3, .int .i64 40, .int .i64 (-1)] 2)).drew) w') := pickBox s a n c (P + 61) [.int .i64 0, .int .i64 3, .int .i64 40, .int .i64 (-1)] 2 (w3.heap.size) 4 _ ((unhide H3).below (unhide BVa)) (by omega) ((box_new w3 [.int .i64 0, .int .i64 3, .int .i64 40, .int .i64 (-1)] 2).drew') rfl (by omega) (by omega) (by simp) (by omega)
    have BVb : Hid (Below w3.heap.size w3 ((w3.alloc (.cells #[.int .i64 0, .int .i64 3, .int .i64 40, .int .i64 (-1)] 2)).alloc (.cells #[.int .i64 5, .int .i64 (-1)] 2)).drew) := (((Below.refl _ _).alloc (Nat.le_refl _) _).alloc (by simp) _).drew
    have PKb : Hid (Calls Try.prog 69 #[.pointer (some ⟨s, 0, none⟩), .slice (some ⟨w3.heap.size, 0, none⟩) 4 4] (((w3.alloc (.cells #[.int .i64 0, .int .i64 3, .int .i64 40, .int .i64 (-1)] 2)).alloc (.cells #[.int .i64 5, .int .i64 (-1)] 2)).drew) fun e w' => (∃ v : Int, e = .returned (.int .i64 v)) ∧ SrcTo w' s a n c (P + 61 + 1) ∧ Out (fun q => q = s) (((w3.alloc (.cells #[.int .i64 0, .int .i64 3, .int .i64 40, .int .i64 (-1)] 2)).alloc (.cells #[.int .i64 5, .int .i64 (-1)] 2)).drew) w') := pickBox s a n c (P + 61) [.int .i64 0, .int .i64 3, .int .i64 40, .int .i64 (-1)] 2 (w3.heap.size) 4 _ ((unhide H3).below (unhide BVb)) (by omega) (((box_new w3 [.int .i64 0, .int .i64 3, .int .i64 40, .int .i64 (-1)] 2).alloc _).drew') rfl (by omega) (by omega) (by simp) (by omega)
    have BVc : Hid (Below w3.heap.size w3 ((w3.alloc (.cells #[.int .i64 5, .int .i64 (-1)] 2)).alloc (.cells #[.int .i64 0, .int .i64 3, .int .i64 40, .int .i64 (-1)] 2)).drew) := (((Below.refl _ _).alloc (Nat.le_refl _) _).alloc (by simp) _).drew
    have PKc : Hid (Calls Try.prog 69 #[.pointer (some ⟨s, 0, none⟩), .slice (some ⟨w3.heap.size + 1, 0, none⟩) 4 4] (((w3.alloc (.cells #[.int .i64 5, .int .i64 (-1)] 2)).alloc (.cells #[.int .i64 0, .int .i64 3, .int .i64 40, .int .i64 (-1)] 2)).drew) fun e w' => (∃ v : Int, e = .returned (.int .i64 v)) ∧ SrcTo w' s a n c (P + 61 + 1) ∧ Out (fun q => q = s) (((w3.alloc (.cells #[.int .i64 5, .int .i64 (-1)] 2)).alloc (.cells #[.int .i64 0, .int .i64 3, .int .i64 40, .int .i64 (-1)] 2)).drew) w') := pickBox s a n c (P + 61) [.int .i64 0, .int .i64 3, .int .i64 40, .int .i64 (-1)] 2 (w3.heap.size + 1) 4 _ ((unhide H3).below (unhide BVc)) (by omega) ((box_new1 w3 (.cells #[.int .i64 5, .int .i64 (-1)] 2) [.int .i64 0, .int .i64 3, .int .i64 40, .int .i64 (-1)] 2).drew') rfl (by omega) (by omega) (by simp) (by omega)
    have QKb : Hid (Box (((w3.alloc (.cells #[.int .i64 0, .int .i64 3, .int .i64 40, .int .i64 (-1)] 2)).alloc (.cells #[.int .i64 5, .int .i64 (-1)] 2)).drew) (w3.heap.size + 1) [.int .i64 5, .int .i64 (-1)] 2) := (box_new1 w3 (.cells #[.int .i64 0, .int .i64 3, .int .i64 40, .int .i64 (-1)] 2) [.int .i64 5, .int .i64 (-1)] 2).drew'
    have QKc : Hid (Box (((w3.alloc (.cells #[.int .i64 5, .int .i64 (-1)] 2)).alloc (.cells #[.int .i64 0, .int .i64 3, .int .i64 40, .int .i64 (-1)] 2)).drew) w3.heap.size [.int .i64 5, .int .i64 (-1)] 2) := ((box_new w3 [.int .i64 5, .int .i64 (-1)] 2).alloc _).drew'
    have MD : Hid (SMem w3 W.heap.size w1.heap.size 27 (.slice (some ⟨g, 0, none⟩) D.words.length c1) (.slice a2 D.flights.length c2) (.slice a3 D.over.length c3) D) := ⟨unhide D3, unhide S3, fun q hq e => by have := (unhide SL q hq).2; omega⟩
    go_wp2_with fail
    go_region_law (first
      | (go_simp; go_at_call 69; have _t := H3; with_reducible refine (unhide PKa).mono ?_; rintro r w5 ⟨⟨v, rfl⟩, hs5, ho5⟩; have ho5' : Out (fun q => q = s) w3 w5 := (Out.ofBelow (F := fun q => q = s) (unhide BVa)).trans ho5 (fun _ _ e => e); have H5 := hide hs5; have M5 := hide ((unhide MD).out ho5' (by omega) (fun q hq e => by have := (unhide SL q hq).1; omega)); have X5 := hide ((unhide X3).out ho5' (fun e => by omega)); have O5 := hide ((unhide O3).trans ho5' (fun _ _ e => e)); have z5 := ho5'.size; have e1 := (unhide M5).box.cell 2; simp at e1; have dz5 : w1.heap.size < w5.heap.size := (by omega); clear hs5 ho5 ho5' H3 MD X3 O3 D3 S3 R3 PKa PKb PKc BVa BVb BVc QKb QKc)
      | (go_simp; go_at_call 69; have _t := H3; with_reducible refine (unhide PKb).mono ?_; rintro r w5 ⟨⟨v, rfl⟩, hs5, ho5⟩; have BB5 := hide ((unhide QKb).out ho5 (by omega)); have ho5' : Out (fun q => q = s) w3 w5 := (Out.ofBelow (F := fun q => q = s) (unhide BVb)).trans ho5 (fun _ _ e => e); have H5 := hide hs5; have M5 := hide ((unhide MD).out ho5' (by omega) (fun q hq e => by have := (unhide SL q hq).1; omega)); have X5 := hide ((unhide X3).out ho5' (fun e => by omega)); have O5 := hide ((unhide O3).trans ho5' (fun _ _ e => e)); have z5 := ho5'.size; have e1 := (unhide M5).box.cell 2; simp at e1; have dz5 : w1.heap.size < w5.heap.size := (by omega); clear hs5 ho5 ho5' H3 MD X3 O3 D3 S3 R3 PKa PKb PKc BVa BVb BVc QKb QKc)
      | (go_simp; go_at_call 69; have _t := H3; with_reducible refine (unhide PKc).mono ?_; rintro r w5 ⟨⟨v, rfl⟩, hs5, ho5⟩; have BB5 := hide ((unhide QKc).out ho5 (by omega)); have ho5' : Out (fun q => q = s) w3 w5 := (Out.ofBelow (F := fun q => q = s) (unhide BVc)).trans ho5 (fun _ _ e => e); have H5 := hide hs5; have M5 := hide ((unhide MD).out ho5' (by omega) (fun q hq e => by have := (unhide SL q hq).1; omega)); have X5 := hide ((unhide X3).out ho5' (fun e => by omega)); have O5 := hide ((unhide O3).trans ho5' (fun _ _ e => e)); have z5 := ho5'.size; have e1 := (unhide M5).box.cell 2; simp at e1; have dz5 : w1.heap.size < w5.heap.size := (by omega); clear hs5 ho5 ho5' H3 MD X3 O3 D3 S3 R3 PKa PKb PKc BVa BVb BVc QKb QKc)
      | (go_simp; go_at_call 69; have _t := BB5; refine (pickBox s a n c (P + 62) _ _ _ 2 w5 (unhide H5) (by omega) (unhide BB5) rfl (by omega) (by omega) (by simp) (by omega)).mono ?_; rintro r w7 ⟨⟨y, rfl⟩, hs7, ho7⟩; have H7 := hide hs7; have M7 := hide ((unhide M5).out ho7 (by omega) (fun q hq e => by have := (unhide SL q hq).1; omega)); have X7 := hide ((unhide X5).out ho7 (fun e => by omega)); have O7 := hide ((unhide O5).trans ho7 (fun _ _ e => e)); have z7 := ho7.size; have e2 := (unhide M7).box.cell 2; simp at e2; have dz7 : w1.heap.size < w7.heap.size := (by omega); have MA := hide ((unhide M7).below ((Below.refl _ w7).alloc (Nat.le_refl _) (.cells #[.int .i64 v, .int .i64 y] 42))); clear BB5 hs7 ho7 H5 M5 X5 O5)
      | (go_simp; go_at_call 69; have _t := H5; refine (pickTo s a n c (P + 62) (fun v => True) _ _ 2 w5 (unhide H5) (by omega) rfl (by omega) (by omega) (by simp)).mono ?_; rintro r w7 ⟨⟨y, -, rfl⟩, hs7, ho7⟩; have H7 := hide hs7; have M7 := hide ((unhide M5).out ho7 (by omega) (fun q hq e => by have := (unhide SL q hq).1; omega)); have X7 := hide ((unhide X5).out ho7 (fun e => by omega)); have O7 := hide ((unhide O5).trans ho7 (fun _ _ e => e)); have z7 := ho7.size; have e2 := (unhide M7).box.cell 2; simp at e2; have dz7 : w1.heap.size < w7.heap.size := (by omega); have MA := hide ((unhide M7).below ((Below.refl _ w7).alloc (Nat.le_refl _) (.cells #[.int .i64 v, .int .i64 y] 42))); clear hs7 ho7 H5 M5 X5 O5)
      | (refine step_append_rowW rfl _ _ 25 rfl W.heap.size i0 _ Try.underlying25 hii hz0 hz1 hz2 rfl (.slice a3 D.over.length c3) D.over rfl (unhide MA).dev.o3 (some ⟨w7.heap.size, 0, none⟩) 1 [(v, y)] rfl (pairs_one_new w7 v y _) (by simp) (by simp; omega) (by simp; omega) ?_; intro a' c' w6 hRW hOW hLO; have R6 := hide hRW; have Q6 := hide hOW; have L6 := hide hLO; have z6 := hOW.size; have B6 := (unhide MA).box.out hOW (fun e => (unhide MA).nd _ (.inr (.inr e)) rfl); have e3 := B6.cell 2; have ef := B6.frozen 2; simp at e3; have BX := hide B6; clear hRW hOW hLO B6))
    all_goals
      clear e1 e2 e3 ef d1
      have hle : (D.over ++ [(v, y)]).length = D.over.length + 1 := by simp
      rw [hle] at R6 L6
      generalize hU0 : w6.setCell _ _ = U0
      have O0 : Out (fun q => q = w1.heap.size) w6 U0 := out_set' (Out.refl _ _) hU0 (.inl rfl)
      have z8 := O0.size
      have za : w7.heap.size < (w7.alloc (.cells #[.int .i64 v, .int .i64 y] 42)).heap.size := by simp
      have hbl : ∀ q, (D.over ≠ [] ∧ (Value.slice a3 D.over.length c3).ownBlock = some q) → W.heap.size ≤ q ∧ q < w1.heap.size := fun q hq => unhide SL q (.inr (.inr hq))
      have hnb : ∀ q, (Value.slice a' (D.over.length + 1) c').ownBlock = some q → q ≠ w1.heap.size := fun q hq e => by
        rcases unhide L6 with ⟨h1, h2⟩ | ⟨q2, h1, h2⟩
        · have := hbl q ⟨h1, by rw [← h2]; exact hq⟩; omega
        · rw [hq] at h1; injection h1 with h1; omega
      have M6 : SMem U0 W.heap.size w1.heap.size 27 (.slice (some ⟨g, 0, none⟩) D.words.length c1) (.slice a2 D.flights.length c2) (.slice a' (D.over.length + 1) c') ⟨D.words, D.flights, D.over ++ [(v, y)]⟩ := by
        refine (unhide MA).setOver ((unhide BX).set' hU0) ((unhide R6).out O0 (fun _ q hq e => hnb q hq e)) (fun _ q hq => ?_) (((unhide Q6).weak (fun q _ e => .inr e)).trans O0 (fun q _ e => .inl e))
        rcases unhide L6 with ⟨h1, h2⟩ | ⟨q2, h1, h2⟩
        · exact .inl ⟨h1, by rw [← h2]; exact hq⟩
        · rw [hq] at h1; injection h1 with h1; exact .inr (by omega)
      have DB := hide M6.box
      have RB := hide M6.dev.rd
      have X6 := hide ((((unhide X7).alloc (.cells #[.int .i64 v, .int .i64 y] 42)).out (unhide Q6) (fun e => by have := hbl _ e; omega)).out O0 (fun e => by omega))
      have O6 := hide ((((unhide O7).alloc (.cells #[.int .i64 v, .int .i64 y] 42)).trans (unhide Q6) (fun q hq e => by have := hbl _ e; omega)).trans O0 (fun q hq e => by omega))
      have H6 := hide ((((unhide H7).below ((Below.refl _ w7).alloc (Nat.le_refl _) (.cells #[.int .i64 v, .int .i64 y] 42))).above (unhide Q6) (fun q e => by have := hbl _ e; omega)).above O0 (fun q e => by omega))
      clear M6 MA H7 M7 X7 O7 hU0 O0 R6 L6 Q6 BX hnb hbl
      have b0 := (unhide DB).cell 0
      have b1 := (unhide DB).cell 1
      have b2 := (unhide DB).cell 2
      have y0 := (unhide X6).cell 0
      have y1 := (unhide X6).cell 1
      have y2 := (unhide X6).cell 2
      have f0 := (unhide X6).frozen 0
      have f1 := (unhide X6).frozen 1
      have f2 := (unhide X6).frozen 2
      simp at b0 b1 b2 y0 y1 y2
      go_wp2_with fail
      clear y0 y1 y2 f0 f1 f2 b0 b1 b2
      generalize hU : ((U0.setCell _ _).setCell _ _).setCell _ _ = U
      obtain ⟨XU, OU⟩ := store3' (unhide X6) hU
      have t0 := (unhide XU).cell 0
      have t1 := (unhide XU).cell 1
      have t2 := (unhide XU).cell 2
      simp at t0 t1 t2
      have zU := (unhide OU).size
      have OO := (unhide O6).trans (unhide OU) (fun q hq e => by omega)
      have HH := (unhide H6).above (unhide OU) (fun q e => by omega)
      have RR := ((unhide RB).out (unhide OU) (fun q h1 h2 e => by omega)).wide (lo' := w.heap.size) (hi' := U.heap.size) (by omega) (by omega)
      refine bodyPost_ret (v := .agg #[.slice (some ⟨g, 0, none⟩) D.words.length c1, .slice a2 D.flights.length c2, .slice a' (D.over.length + 1) c']) (by simp [results, Try.results66, go_sem, t0, t1, t2]) rfl ⟨⟨some ⟨g, 0, none⟩, c1, a2, c2, a', c', ⟨D.words, D.flights, D.over ++ [(v, y)]⟩, by simp, RR, ⟨by show D.words.length ≤ 100; omega, by show D.flights.length ≤ 100; omega, by simp; omega⟩⟩, HH.more (by omega), OO⟩
  cases b4 : (x == 4)
  case true =>
    clear hx0 hx1
    obtain ⟨i0, hii, hz0, hz1, hz2⟩ := info_parts infoCell
    have d1 := (unhide D3).cell 1
    simp at d1
    have dz : w1.heap.size < w3.heap.size := by omega
    have HD : Hid (SrcTo w3.drew s a n c (P + 61)) := (unhide H3).below ((Below.refl _ _).drew)
    have MD : Hid (SMem w3.drew W.heap.size w1.heap.size 27 (.slice (some ⟨g, 0, none⟩) D.words.length c1) (.slice a2 D.flights.length c2) (.slice a3 D.over.length c3) D) := ⟨unhide D3, (unhide S3).stay (fun _ _ _ => rfl), fun q hq e => by have := (unhide SL q hq).2; omega⟩
    have XD : Hid (Box w3.drew w.heap.size [.slice none 0 0, .slice none 0 0, .slice none 0 0] 27) := unhide X3
    have OD : Hid (Out (fun q => q = s) w w3.drew) := (unhide O3).trans (Out.ofBelow (F := fun q => q = s) ((Below.refl _ _).drew)) (fun _ _ e => e)
    have zd : w3.heap.size ≤ w3.drew.heap.size := Nat.le_refl _
    go_wp2_with fail
    go_region_law (first
      | (go_simp; go_at_call 69; refine (pickTo s a n c (P + 61) (fun v => True) _ _ 3 w3.drew (unhide HD) (by omega) rfl (by omega) (by omega) (by simp)).mono ?_; rintro r w5 ⟨⟨v, -, rfl⟩, hs5, ho5⟩; have H5 := hide hs5; have M5 := hide ((unhide MD).out ho5 (by omega) (fun q hq e => by have := (unhide SL q hq).1; omega)); have X5 := hide ((unhide XD).out ho5 (fun e => by omega)); have O5 := hide ((unhide OD).trans ho5 (fun _ _ e => e)); have z5 := ho5.size; have e1 := (unhide M5).box.cell 1; simp at e1; have dz5 : w1.heap.size < w5.heap.size := (by omega); have MA := hide ((unhide M5).below ((Below.refl _ w5).alloc (Nat.le_refl _) (.cells #[.int .i64 v, .int .i64 0] 42))); clear hs5 ho5)
      | (refine step_append_rowW rfl _ _ 25 rfl W.heap.size i0 _ Try.underlying25 hii hz0 hz1 hz2 rfl (.slice a2 D.flights.length c2) D.flights rfl (unhide MA).dev.o2 (some ⟨w5.heap.size, 0, none⟩) 1 [(v, 0)] rfl (pairs_one_new w5 v 0 _) (by simp) (by simp; omega) (by simp; omega) ?_; intro a' c' w6 hRW hOW hLO; have R6 := hide hRW; have Q6 := hide hOW; have L6 := hide hLO; have z6 := hOW.size; have B6 := (unhide MA).box.out hOW (fun e => (unhide MA).nd _ (.inr (.inl e)) rfl); have e1 := B6.cell 1; have ef := B6.frozen 1; simp at e1; have BX := hide B6; clear hRW hOW hLO B6))
    all_goals
      clear e1 ef d1
      have hle : (D.flights ++ [(v, 0)]).length = D.flights.length + 1 := by simp
      rw [hle] at R6 L6
      generalize hU0 : w6.setCell _ _ = U0
      have O0 : Out (fun q => q = w1.heap.size) w6 U0 := out_set' (Out.refl _ _) hU0 (.inl rfl)
      have z7 := O0.size
      have za : w5.heap.size < (w5.alloc (.cells #[.int .i64 v, .int .i64 0] 42)).heap.size := by simp
      have hbl : ∀ q, (D.flights ≠ [] ∧ (Value.slice a2 D.flights.length c2).ownBlock = some q) → W.heap.size ≤ q ∧ q < w1.heap.size := fun q hq => unhide SL q (.inr (.inl hq))
      have hnb : ∀ q, (Value.slice a' (D.flights.length + 1) c').ownBlock = some q → q ≠ w1.heap.size := fun q hq e => by
        rcases unhide L6 with ⟨h1, h2⟩ | ⟨q2, h1, h2⟩
        · have := hbl q ⟨h1, by rw [← h2]; exact hq⟩; omega
        · rw [hq] at h1; injection h1 with h1; omega
      have M6 : SMem U0 W.heap.size w1.heap.size 27 (.slice (some ⟨g, 0, none⟩) D.words.length c1) (.slice a' (D.flights.length + 1) c') (.slice a3 D.over.length c3) ⟨D.words, D.flights ++ [(v, 0)], D.over⟩ := by
        refine (unhide MA).setFl ((unhide BX).set' hU0) ((unhide R6).out O0 (fun _ q hq e => hnb q hq e)) (fun _ q hq => ?_) (((unhide Q6).weak (fun q _ e => .inr e)).trans O0 (fun q _ e => .inl e))
        rcases unhide L6 with ⟨h1, h2⟩ | ⟨q2, h1, h2⟩
        · exact .inl ⟨h1, by rw [← h2]; exact hq⟩
        · rw [hq] at h1; injection h1 with h1; exact .inr (by omega)
      have DB := hide M6.box
      have RB := hide M6.dev.rd
      have X6 := hide ((((unhide X5).alloc (.cells #[.int .i64 v, .int .i64 0] 42)).out (unhide Q6) (fun e => by have := hbl _ e; omega)).out O0 (fun e => by omega))
      have O6 := hide ((((unhide O5).alloc (.cells #[.int .i64 v, .int .i64 0] 42)).trans (unhide Q6) (fun q hq e => by have := hbl _ e; omega)).trans O0 (fun q hq e => by omega))
      have H6 := hide ((((unhide H5).below ((Below.refl _ w5).alloc (Nat.le_refl _) (.cells #[.int .i64 v, .int .i64 0] 42))).above (unhide Q6) (fun q e => by have := hbl _ e; omega)).above O0 (fun q e => by omega))
      clear M6 MA MD XD OD HD H5 M5 X5 O5 hU0 O0 R6 L6 Q6 BX hnb hbl
      have b0 := (unhide DB).cell 0
      have b1 := (unhide DB).cell 1
      have b2 := (unhide DB).cell 2
      have y0 := (unhide X6).cell 0
      have y1 := (unhide X6).cell 1
      have y2 := (unhide X6).cell 2
      have f0 := (unhide X6).frozen 0
      have f1 := (unhide X6).frozen 1
      have f2 := (unhide X6).frozen 2
      simp at b0 b1 b2 y0 y1 y2
      go_wp2_with fail
      clear y0 y1 y2 f0 f1 f2 b0 b1 b2
      generalize hU : ((U0.setCell _ _).setCell _ _).setCell _ _ = U
      obtain ⟨XU, OU⟩ := store3' (unhide X6) hU
      have t0 := (unhide XU).cell 0
      have t1 := (unhide XU).cell 1
      have t2 := (unhide XU).cell 2
      simp at t0 t1 t2
      have zU := (unhide OU).size
      have OO := (unhide O6).trans (unhide OU) (fun q hq e => by omega)
      have HH := (unhide H6).above (unhide OU) (fun q e => by omega)
      have RR := ((unhide RB).out (unhide OU) (fun q h1 h2 e => by omega)).wide (lo' := w.heap.size) (hi' := U.heap.size) (by omega) (by omega)
      refine bodyPost_ret (v := .agg #[.slice (some ⟨g, 0, none⟩) D.words.length c1, .slice a' (D.flights.length + 1) c', .slice a3 D.over.length c3]) (by simp [results, Try.results66, go_sem, t0, t1, t2]) rfl ⟨⟨some ⟨g, 0, none⟩, c1, a', c', a3, c3, ⟨D.words, D.flights ++ [(v, 0)], D.over⟩, by simp, RR, ⟨by show D.words.length ≤ 100; omega, by simp; omega, by show D.over.length ≤ 100; omega⟩⟩, HH.more (by omega), OO⟩
  clear hx0 hx1
  have b0 := (unhide D3).cell 0
  have b1 := (unhide D3).cell 1
  have b2 := (unhide D3).cell 2
  have y0 := (unhide X3).cell 0
  have y1 := (unhide X3).cell 1
  have y2 := (unhide X3).cell 2
  have f0 := (unhide X3).frozen 0
  have f1 := (unhide X3).frozen 1
  have f2 := (unhide X3).frozen 2
  simp at b0 b1 b2 y0 y1 y2
  go_wp2_with fail
  clear y0 y1 y2 f0 f1 f2 b0 b1 b2
  generalize hU : ((w3.setCell _ _).setCell _ _).setCell _ _ = U
  obtain ⟨XU, OU⟩ := store3' (unhide X3) hU
  have t0 := (unhide XU).cell 0
  have t1 := (unhide XU).cell 1
  have t2 := (unhide XU).cell 2
  simp at t0 t1 t2
  have zU := (unhide OU).size
  have OO := (unhide O3).trans (unhide OU) (fun q hq e => by omega)
  have HH := (unhide H3).above (unhide OU) (fun q e => by omega)
  have RR := ((unhide R3).out (unhide OU) (fun q h1 h2 e => by omega)).wide (lo' := w.heap.size) (hi' := U.heap.size) (by omega) (by omega)
  refine bodyPost_ret (v := .agg #[.slice (some ⟨g, 0, none⟩) D.words.length c1, .slice a2 D.flights.length c2, .slice a3 D.over.length c3]) (by simp [results, Try.results66, go_sem, t0, t1, t2]) rfl ⟨⟨some ⟨g, 0, none⟩, c1, a2, c2, a3, c3, D, by rfl, RR, ⟨by omega, by omega, by omega⟩⟩, HH.more (by omega), OO⟩
end Go.Proofs.Ytdnfadbkpajloaa
