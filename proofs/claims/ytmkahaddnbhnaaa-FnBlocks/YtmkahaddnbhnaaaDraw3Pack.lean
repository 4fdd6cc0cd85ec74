/-
  The laws' draws of what is packed.
-/
import Derived.Test.YtmkahaddnbhnaaaDraw3Nums
namespace Go.Proofs.Ytmkahaddnbhnaaa
open Go.RowKit
set_option linter.unusedVariables false

theorem own_block' {g n c q : Nat} (h : (Value.slice (some ⟨g, 0, none⟩) n c).ownBlock = some q) : q = g := by cases h; rfl
theorem results_cell_tmp' {P : Program} {fn : Func} {p q : Tmp} {ty : TypeId} (h : fn.results = #[.cell p ty, .tmp q]) (tmps : Array Value) (w : World) (g : Nat) (t : TypeId) (cs : Array Value) (fr : Nat × Nat) (d : TypeDesc) (v : Value)
    (hp : tmps.getD p undef = .pointer (some ⟨g, 0, none⟩)) (hq : tmps.getD q undef = v) (hg : w.heap[g]? = some (.cells cs t fr))
    (hu : P.underlying ty = some d) (hd : (match d with | .struct _ | .array _ _ => true | _ => false) = true) (hi : (P.info? ty).map (·.size) = some cs.size) :
    (results fn tmps).run P w = .ok (.tuple #[.agg cs, v]) w := by
  have hp' : tmps[p]?.getD undef = .pointer (some ⟨g, 0, none⟩) := by simpa using hp
  have hq' : tmps[q]?.getD undef = v := by simpa using hq
  simp [results, h, hp', hq', asAddr, run_loadVar_row w g t ty cs fr d hg hu hd hi]
theorem four {l : List Int} (h : l.length = 4) : ∃ x0 x1 x2 x3, l = [x0, x1, x2, x3] := by
  match l, h with
  | [x0, x1, x2, x3], _ => exact ⟨x0, x1, x2, x3, rfl⟩

set_option maxRecDepth 20000 in
set_option maxHeartbeats 2000000 in
theorem bentNumbers_any (s : Nat) (a : Option Addr) (n c p : Nat) (w : World) (h : SrcAt w 115 s a n c p) (hp : p ≤ 300) :
    Calls Try.prog 53 #[.pointer (some ⟨s, 0, none⟩)] w fun r w' => (∃ ad cp l, r = .returned (.slice ad (List.length l) cp) ∧ IntsAt w' ad l ∧ (∀ x, ad = some x → w.heap.size ≤ x.block) ∧ List.length l ≤ 5) ∧ (∃ q, q ≤ p + 20 ∧ SrcAt w' 115 s a n c q) ∧ Out (fun q => q = s) w w' := by
  obtain ⟨i0, hi, hz0, hz1, hz2⟩ := info_parts infoInt64
  have hsl := h.lt
  have H := hide h
  clear h
  go_enter Try.func53, Try.ntmps53
  go_wp2_with fail
  refine (numbers_any s a n c p _ (unhide H) (by omega)).mono ?_
  rintro r w1 ⟨⟨v, l, rfl, ho, hl⟩, ⟨q, hq, h1⟩, o1⟩
  obtain ⟨x0, x1, x2, x3, rfl⟩ := four hl
  obtain ⟨g, cap, rfl, hgz, hcap⟩ : ∃ g cap, v = .slice (some ⟨g, 0, none⟩) 4 cap ∧ w.heap.size ≤ g ∧ 4 ≤ cap := by
    rcases ho.2 with ⟨_, h0⟩ | ⟨g, cap, cur, rfl, hg, _, hc, _⟩
    · omega
    · exact ⟨g, cap, rfl, hg, hc⟩
  have O1 := hide ho
  have S1 := hide h1
  have U1 := hide o1
  have zg : g < w1.heap.size := (ho.lt g rfl).2
  clear ho h1 o1 hl H
  go_wp2_with fail
  refine (next_out s a n c q 10 _ (unhide S1) (by omega) (by omega) (by omega)).mono ?_
  rintro r w2 ⟨⟨v, rfl, v0, v1⟩, h2, o2⟩
  have O2 := hide (o2.own (unhide O1) (fun b hb e => by have := own_block' hb; omega))
  have S2 := hide h2
  have U2 := hide ((unhide U1).trans o2 (fun _ _ e => e))
  have z2 : g < w2.heap.size := by have := o2.size; omega
  clear h2 o2 O1 S1 U1
  have I2 := hide (intsAt_own1 (l := [x0, x1, x2, x3]) (unhide O2))
  by_cases hv : v = 0
  · have e0 : (v == 0) = true := by simpa using hv
    clear hv
    go_wp2_with fail
    go_ret
    refine ⟨⟨some ⟨g, 1, none⟩, cap - 1, [x1, x2, x3], rfl, ?_, fun x hx => by cases hx; exact hgz, by simp⟩, ⟨_, by omega, unhide S2⟩, unhide U2⟩
    obtain ⟨b', o', he, hb, hc⟩ := (unhide I2).at (k := 0) (by simp)
    cases he
    refine .inr ⟨g, 1, rfl, hb, fun i hi => ?_⟩
    have := hc (i + 1) (by simp at hi ⊢; omega)
    rw [show 1 + i = 0 + (i + 1) by omega, this]
    match i, hi with
    | 0, _ => rfl
    | 1, _ => rfl
    | 2, _ => rfl
  have hv0 := hv
  clear hv
  by_cases hv : v = 1
  · have e0 : (v == 0) = false := by simpa using hv0
    have e1 : (v == 1) = true := by simpa using hv
    clear hv hv0
    go_wp2_with fail
    refine (pick_new s a n c (q + 1) (fun _ => True) (nums [-1, 10000]).toArray 2 2 w2 (unhide S2) (by omega) rfl (by omega) (by omega) (offerI _ _ (fun _ _ => trivial))).mono ?_
    rintro r w3 ⟨⟨x, -, rfl⟩, h3, o3⟩
    have O3 := hide (o3.own (unhide O2) (fun b hb e => by have := own_block' hb; omega))
    have S3 := hide h3
    have U3 := hide ((unhide U2).trans o3 (fun _ _ e => e))
    clear h3 o3 O2 S2 U2 I2
    have r2 := (unhide O3).cellAt 2 (by decide)
    have g2 := (unhide O3).frozenAt 2
    simp only [nums, List.map_cons, List.getElem?_cons_zero, List.getElem?_cons_succ] at r2
    have O4 := hide ((unhide O3).stored 2 (.int .i64 x)).1
    have U4 : Hid (Out (fun q => q = g) w3 (w3.setCell ⟨g, 2, none⟩ (.int .i64 x))) := (Out.refl (fun q => q = g) w3).one 2 _
    go_wp2_with fail
    go_ret
    refine ⟨⟨some ⟨g, 0, none⟩, cap, [x0, x1, x, x3], rfl, ?_, fun x hx => by cases hx; exact hgz, by simp⟩, ⟨_, by omega, (unhide S3).outOther (unhide U4) (by omega)⟩, (unhide U3).trans (unhide U4) (fun q hq e => by omega)⟩
    exact intsAt_own1 (l := [x0, x1, x, x3]) (unhide O4)
  have hv1 := hv
  clear hv
  by_cases hv : v = 2
  · have e0 : (v == 0) = false := by simpa using hv0
    have e1 : (v == 1) = false := by simpa using hv1
    have e2 : (v == 2) = true := by simpa using hv
    clear hv hv0 hv1
    go_wp2_with (at_builtin; refine wpList_append_ints _ rfl _ _ 28 rfl w.heap.size 2 i0 (.int .i64 0) Try.underlying28 hi hz0 hz1 hz2 rfl _ 4 (nums [x0, x1, x2, x3]) rfl ((unhide O2).alloc _) (some ⟨w2.heap.size, 0, none⟩) 1 1 [1] rfl rfl (ints_one_new w2 1 _) (by simp) (by simp; omega) ?_; intro v3 w3 hown hgrow hblk; have O3 := hide hown; have G3 := hide (out_grown ((unhide U2).alloc _) hgrow (fun b hb => ((unhide O2).lt b hb).1)); have S3 := hide (src_grown (w := w2) ((unhide S2).alloc _) hgrow (fun b hb => by have := ((unhide O2).lt b hb).1; omega)); clear hown hgrow hblk)
    go_ret
    have h5 : w3.ownsRow w.heap.size 2 1 v3 5 (nums [x0, x1, x2, x3, 1]) := unhide O3
    obtain ⟨ad, cp, rfl, -, hi5, -, -⟩ := intsAt_own h5
    exact ⟨⟨ad, cp, [x0, x1, x2, x3, 1], rfl, hi5, fun x hx => (h5.lt x.block (by rw [hx]; rfl)).1, by simp⟩, ⟨_, by omega, unhide S3⟩, unhide G3⟩
  have e0 : (v == 0) = false := by simpa using hv0
  have e1 : (v == 1) = false := by simpa using hv1
  have e2 : (v == 2) = false := by simpa using hv
  clear hv hv0 hv1
  go_wp2_with fail
  go_ret
  exact ⟨⟨some ⟨g, 0, none⟩, cap, [x0, x1, x2, x3], rfl, unhide I2, fun x hx => by cases hx; exact hgz, by simp⟩, ⟨_, by omega, unhide S2⟩, unhide U2⟩
/-- A source is made: what is there then. -/
theorem source_new {w W : World} {a : Option Addr} {n c p : Nat} (hW : W = w.alloc (.cells #[.slice a n c, .int .i64 p] 115)) (h : CodeAt w a n) (hn : n ≤ 1048576) : SrcAt W 115 w.heap.size a n c p ∧ Below w.heap.size w W := by
  subst hW
  exact ⟨srcAt_new h hn c p _, (Below.refl _ _).alloc (Nat.le_refl _) _⟩

set_option maxHeartbeats 1000000 in
theorem drawPackGone_any (a : Option Addr) (n c : Nat) (w : World) (h : CodeAt w a n) (hn : n ≤ 1048576) :
    Calls Try.prog 17 #[.slice a n c] w fun r w' => (∃ u e : Int, r = .returned (.tuple #[.int .i64 u, .int .i64 e])) ∧ Below w.heap.size w w' := by
  have H := hide h
  clear h
  go_enter Try.func17, Try.ntmps17
  go_wp2_with fail
  refine (l1Source_any a n c _).mono ?_
  rintro r W1 ⟨rfl, hW1⟩
  obtain ⟨hS, hB⟩ := source_new hW1 (unhide H) hn
  have S1 := hide hS
  have B1 := hide hB
  clear hS hB hW1
  go_wp2_with fail
  refine (pick_new w.heap.size a n c 0 (fun _ => True) (nums [1, 2, 999, 1000, 0]).toArray 2 5 W1 (unhide S1) (by omega) rfl (by omega) (by omega) (offerI _ _ (fun _ _ => trivial))).mono ?_
  rintro r w2 ⟨⟨u, -, rfl⟩, h2, o2⟩
  have S2 := hide h2
  have B2 := hide (o2.belowS (unhide B1) (Nat.le_refl _) (Nat.le_refl _))
  clear h2 o2 S1 B1
  go_wp2_with fail
  refine (drawEpoch_any w.heap.size a n c (0 + 1) _ (unhide S2) (by omega)).mono ?_
  rintro r w3 ⟨⟨e, -, rfl⟩, h3, o3⟩
  have B3 := hide (o3.belowS (unhide B2) (Nat.le_refl _) (Nat.le_refl _))
  clear h3 o3 S2 B2
  go_wp2_with fail
  refine bodyPost_ret (v := .tuple #[.int .i64 u, .int .i64 e]) (by simp [results, Try.results17, go_sem]) rfl ⟨⟨_, _, rfl⟩, unhide B3⟩
set_option maxHeartbeats 1000000 in
theorem drawPackData_any (a : Option Addr) (n c : Nat) (w : World) (h : CodeAt w a n) (hn : n ≤ 1048576) :
    Calls Try.prog 15 #[.slice a n c] w fun r w' => (∃ (u i : Int) (ad : Option Addr) (cp : Nat) (l : List Int) (e : Int), r = .returned (.tuple #[.int .i64 u, .int .i64 i, .slice ad l.length cp, .int .i64 e]) ∧ IntsAt w' ad l ∧ l.length ≤ 5) ∧ Below w.heap.size w w' := by
  have H := hide h
  clear h
  go_enter Try.func15, Try.ntmps15
  go_wp2_with fail
  refine (l1Source_any a n c _).mono ?_
  rintro r W1 ⟨rfl, hW1⟩
  obtain ⟨hS, hB⟩ := source_new hW1 (unhide H) hn
  have S1 := hide hS
  have B1 := hide hB
  clear hS hB hW1
  go_wp2_with fail
  refine (pick_new w.heap.size a n c 0 (fun _ => True) (nums [1, 2, 999, 1000, 5, 6]).toArray 2 6 W1 (unhide S1) (by omega) rfl (by omega) (by omega) (offerI _ _ (fun _ _ => trivial))).mono ?_
  rintro r w2 ⟨⟨u, -, rfl⟩, h2, o2⟩
  have S2 := hide h2
  have B2 := hide (o2.belowS (unhide B1) (Nat.le_refl _) (Nat.le_refl _))
  clear h2 o2 S1 B1
  go_wp2_with fail
  refine (pick_new w.heap.size a n c (0 + 1) (fun _ => True) (nums [0, 1, 2, 3, 4, -1]).toArray 2 6 w2 (unhide S2) (by omega) rfl (by omega) (by omega) (offerI _ _ (fun _ _ => trivial))).mono ?_
  rintro r w3 ⟨⟨i, -, rfl⟩, h3, o3⟩
  have S3 := hide h3
  have B3 := hide (o3.belowS (unhide B2) (Nat.le_refl _) (Nat.le_refl _))
  clear h3 o3 S2 B2
  go_wp2_with fail
  refine (bentNumbers_any w.heap.size a n c (0 + 1 + 1) _ (unhide S3) (by omega)).mono ?_
  rintro r w4 ⟨⟨ad, cp, l, rfl, hil, hal, hll⟩, ⟨q, hq, h4⟩, o4⟩
  have S4 := hide h4
  have B4 := hide (o4.belowS (unhide B3) (Nat.le_refl _) (Nat.le_refl _))
  have hsz : w.heap.size < w3.heap.size := (unhide S3).lt
  have I4 := hide hil
  have A4 := hide hal
  clear h4 o4 S3 B3 hil hal
  go_wp2_with fail
  refine (drawEpoch_any w.heap.size a n c q _ (unhide S4) (by omega)).mono ?_
  rintro r w5 ⟨⟨e, -, rfl⟩, h5, o5⟩
  have B5 := hide (o5.belowS (unhide B4) (Nat.le_refl _) (Nat.le_refl _))
  have I5 := hide (o5.ints (unhide I4) (fun x hx e => by have := unhide A4 x hx; omega))
  clear h5 o5 S4 B4 I4 A4
  go_wp2_with fail
  refine bodyPost_ret (v := .tuple #[.int .i64 u, .int .i64 i, .slice ad l.length cp, .int .i64 e]) (by simp [results, Try.results15, go_sem]) rfl ⟨⟨_, _, _, _, l, _, rfl, unhide I5, hll⟩, unhide B5⟩
set_option maxRecDepth 20000 in
set_option maxHeartbeats 2000000 in
theorem drawPackNode_any (a : Option Addr) (n c : Nat) (w : World) (h : CodeAt w a n) (hn : n ≤ 1048576) :
    Calls Try.prog 13 #[.slice a n c] w fun r w' => (∃ (u : Int) (d : Bool) (pa : Int) (nm : ByteArray) (sz e : Int), r = .returned (.tuple #[.agg #[.int .i64 u, .bool d, .int .i64 pa, .string nm, .int .i64 sz], .int .i64 e]) ∧ nm.size ≤ 100) ∧ Below w.heap.size w w' := by
  obtain ⟨W, hW, hWz, HB0, HX0⟩ := boxes1 w [.int .i64 0, .bool false, .int .i64 0, .string ⟨#[]⟩, .int .i64 0] 25
  have H := hide (h.below (unhide HB0))
  clear h
  go_enter Try.func13, Try.ntmps13
  go_wp2_with fail
  rw [← hW]
  clear hW
  refine (drawNodeFault_any a n c _ (unhide H) hn).mono ?_
  rintro r w1 ⟨⟨u, d, pa, nm, sz, rfl, hnm⟩, hb1⟩
  have H1 := hide ((unhide H).below hb1)
  have HX1 := hide ((unhide HX0).below hb1)
  have B1 := hide (below_step (unhide HB0) hb1 (by omega))
  have z1 : w.heap.size < w1.heap.size := by have := hb1.size; omega
  clear hb1 H HX0 HB0
  go_wp2_with fail
  refine (later_any a n c _).mono ?_
  rintro r W2 ⟨rfl, hW2⟩
  obtain ⟨hS, hB⟩ := source_new hW2 (unhide H1) hn
  have S2 := hide hS
  have HX2 := hide ((unhide HX1).below hB)
  have B2 := hide (below_step (unhide B1) hB (by omega))
  clear hS hB hW2 H1 HX1 B1
  go_wp2_with fail
  refine (drawEpoch_any w1.heap.size a n c 19 _ (unhide S2) (by omega)).mono ?_
  rintro r w3 ⟨⟨e, -, rfl⟩, h3, o3⟩
  have HX3 := hide ((unhide HX2).out o3 (by show ¬ w.heap.size = w1.heap.size; omega))
  have B3 := hide (o3.belowS (unhide B2) (Nat.le_refl _) (by omega))
  clear h3 o3 S2 HX2 B2
  have q0 := (unhide HX3).cell 0
  have q1 := (unhide HX3).cell 1
  have q2 := (unhide HX3).cell 2
  have q3 := (unhide HX3).cell 3
  have q4 := (unhide HX3).cell 4
  have f0 := (unhide HX3).frozen 0
  have f1 := (unhide HX3).frozen 1
  have f2 := (unhide HX3).frozen 2
  have f3 := (unhide HX3).frozen 3
  have f4 := (unhide HX3).frozen 4
  simp only [List.getElem?_cons_zero, List.getElem?_cons_succ] at q0 q1 q2 q3 q4
  go_wp2_with fail
  clear q0 q1 q2 q3 q4 f0 f1 f2 f3 f4
  generalize hU : ((((w3.setCell _ _).setCell _ _).setCell _ _).setCell _ _).setCell _ _ = U at *
  have XU : Hid (Box U w.heap.size [.int .i64 u, .bool d, .int .i64 pa, .string nm, .int .i64 sz] 25) := hU ▸ (((((unhide HX3).set 0 _).set 1 _).set 2 _).set 3 _).set 4 _
  have OU : Hid (Out (fun q => q = w.heap.size) w3 U) := hU ▸ (((((Out.refl (fun q => q = w.heap.size) w3).one 0 _).one 1 _).one 2 _).one 3 _).one 4 _
  have BU := hide ((unhide OU).below (unhide B3) (Nat.le_refl _) (fun q hq e => by omega))
  clear hU OU
  refine bodyPost_ret (results_cell_tmp' Try.results13 _ U w.heap.size 25 _ (0, 0) _ _ rfl rfl (unhide XU) Try.underlying25 rfl (by kernel_rfl)) rfl ⟨⟨_, _, _, _, _, _, rfl, hnm⟩, unhide BU⟩
end Go.Proofs.Ytmkahaddnbhnaaa
