/-
  The laws' draws of devices: new ones, and what acts make of them.
-/
import Derived.Test.YtdnfadbkpajloaaDraw2Base
namespace Go.Proofs.Ytdnfadbkpajloaa
open Go.RowKit
set_option linter.unusedVariables false

theorem good_new {k : Nat} (h2 : 2 ≤ k) (h4 : k ≤ 4) : Good ⟨List.replicate (k * 8) 0, [], []⟩ := by
  refine ⟨?_, ?_, rfl, rfl, List.nodup_nil, List.nodup_nil⟩
  · simp [sizeOk]; omega
  · rw [allWords, List.all_eq_true]
    intro x hx
    rw [(List.mem_replicate.1 hx).2]
    rfl
set_option maxHeartbeats 1000000 in
theorem l2NewS_any (k : Nat) (w : World) (hk : k ≤ 41) :
    Calls Try.prog 190 #[.int .i64 k] w fun e w' => (∃ v1, e = .returned (.agg #[v1, .slice none 0 0, .slice none 0 0]) ∧ SDev w' w.heap.size v1 (.slice none 0 0) (.slice none 0 0) ⟨List.replicate (k * 8) 0, [], []⟩) ∧ Below w.heap.size w w' := by
  obtain ⟨i0, hi, hz0, hz1, hz2⟩ := info_parts infoInt64
  go_enter Try.func190, Try.ntmps190
  go_wp2_with (at_make; refine wpList_make_full _ rfl _ _ 24 rfl w.heap.size 2 i0 (.int .i64 0) 1 Try.underlying24 hi hz0 hz1 .i64 .i64 _ _ (k * 8) rfl rfl (by omega) (by omega) (by rw [hz2]; omega) (by unfold maxLen; omega) (by simp) ?_; intro w1 hown hgrow; obtain ⟨q0, q1, q2, f0, f1, f2, HB, HX, hz⟩ := new_after3 hgrow; have HOW := hide hown; clear hown hgrow)
  clear q0 q1 q2 f0 f1 f2
  rw [World.size_alloc] at HOW
  generalize hU : ((w1.setCell _ _).setCell _ _).setCell _ _ = U
  obtain ⟨X, O⟩ := store3' (unhide HX) hU
  have O4 := (unhide O).own (unhide HOW) (by simp [Value.ownBlock])
  have B4 := (unhide O).below (unhide HB) (Nat.le_refl _) (fun q hq h => by omega)
  have X4 := unhide X
  clear hU X O HX HOW HB
  have t0 := X4.cell 0
  have t1 := X4.cell 1
  have t2 := X4.cell 2
  simp at t0 t1 t2
  refine bodyPost_ret (v := .agg #[.slice (some ⟨w.heap.size + 1, 0, none⟩) (k * 8) (k * 8), .slice none 0 0, .slice none 0 0]) (by simp [results, Try.results190, go_sem, t0, t1, t2]) rfl ⟨⟨_, rfl, ?_⟩, B4⟩
  rw [made_zero] at O4
  exact ⟨by simpa using O4, .inl ⟨rfl, none, rfl, .inl rfl⟩, .inl ⟨rfl, none, rfl, .inl rfl⟩, fun h => absurd rfl h, fun h => absurd rfl h, fun h => absurd rfl h⟩
theorem SDev.base {w : World} {base base' : Nat} {v1 v2 v3 : Value} {D : Dev} (h : SDev w base v1 v2 v3 D) (hb : base' ≤ base) : SDev w base' v1 v2 v3 D := by
  have row : ∀ v l, RowW w base v l → RowW w base' v l := fun v l hr => by
    rcases hr with hr | ⟨hl, hr⟩
    · exact .inl hr
    · exact .inr ⟨hl, own_base hr (fun q hq => Nat.le_trans hb (hr.lt q hq).1)⟩
  exact ⟨own_base h.o1 (fun q hq => Nat.le_trans hb (h.o1.lt q hq).1), row _ _ h.o2, row _ _ h.o3, h.n12, h.n13, h.n23⟩
/-- A device that was drawn: it is Good, and small. -/
structure Small (D : Dev) : Prop where
  good : Good D
  cells : cellsN D ≤ 20
  words : D.words.length ≤ 32
theorem Small.act {D : Dev} (h : Small D) {n : Nat} (hc : cellsN D ≤ n) (x : Trip) (h0 : actCode D x = 0) : Good (actDev D x) ∧ cellsN (actDev D x) ≤ n + 1 ∧ (actDev D x).words.length ≤ 32 :=
  ⟨h.good.act h0, by have := cellsN_act D x; omega, by rw [words_act]; exact h.words⟩

set_option maxRecDepth 20000 in
set_option maxHeartbeats 2000000 in
theorem l2Draw_any (s : Nat) (a : Option Addr) (n c P : Nat) (w : World) (h : SrcTo w s a n c P) (hp : P ≤ 700) :
    Calls Try.prog 137 #[.pointer (some ⟨s, 0, none⟩)] w fun e w' => (∃ v1 v2 v3 D, e = .returned (.agg #[v1, v2, v3]) ∧ SDev w' w.heap.size v1 v2 v3 D ∧ Small D) ∧ SrcTo w' s a n c (P + 60) ∧ Out (fun q => q = s) w w' := by
  have H := hide h
  have hsz := h.lt
  clear h
  go_enter Try.func137, Try.ntmps137
  go_wp2_with fail
  obtain ⟨W, hW, z1, hb, hx⟩ := boxes1 w [.slice none 0 0, .slice none 0 0, .slice none 0 0] 27
  have hWz : W.heap.size = w.heap.size + 1 := by rw [hW, World.size_alloc]
  rw [← hW, ← hWz]
  clear hW
  refine (pickTo s a n c P (fun v => 2 ≤ v ∧ v ≤ 4) _ _ 3 W ((unhide H).below (unhide hb)) (by omega) rfl (by omega) (by omega) (by simp)).mono ?_
  rintro r w1 ⟨⟨v, hv, rfl⟩, hs1, ho1⟩
  obtain ⟨m, rfl⟩ : ∃ m : Nat, v = (m : Int) := ⟨v.toNat, by omega⟩
  have z2 := ho1.size
  have H1 := hide hs1
  have O1 := hide ((Out.ofBelow (F := fun q => q = s) (unhide hb)).trans ho1 (fun _ _ e => e))
  have X1 := hide ((unhide hx).out ho1 (fun e => by omega))
  have hm : 2 ≤ m ∧ m ≤ 4 := by omega
  clear hs1 ho1 H hb hx hWz hv
  go_wp2_with fail
  refine (l2NewS_any m _ (by omega)).mono ?_
  rintro r w2 ⟨⟨v1, rfl, hS⟩, hb2⟩
  have hg0 := good_new hm.1 hm.2
  have hl0 : (List.replicate (m * 8) (0 : Int)).length ≤ 32 ∧ 8 ≤ (List.replicate (m * 8) (0 : Int)).length := by simp; omega
  generalize hws : List.replicate (m * 8) (0 : Int) = ws0 at *
  clear hws
  have HG := hide hg0
  clear hg0
  obtain ⟨s1, d1, e1, -⟩ := intsAt_own hS.o1
  subst e1
  have z3 := hb2.size
  obtain ⟨W3, hW3, z4, hb3, hx3⟩ := boxes1 w2 [.slice s1 ws0.length d1, .slice none 0 0, .slice none 0 0] 27
  have H3 := hide (((unhide H1).below hb2).below (unhide hb3))
  have O3 := hide (((unhide O1).trans (Out.ofBelow (F := fun q => q = s) hb2) (fun _ _ e => e)).trans (Out.ofBelow (F := fun q => q = s) (unhide hb3)) (fun _ _ e => e))
  have X3 := hide (((unhide X1).below hb2).below (unhide hb3))
  have hq : ∀ q, SB (.slice s1 ws0.length d1) (.slice none 0 0) (.slice none 0 0) ⟨ws0, [], []⟩ q → w1.heap.size ≤ q ∧ q < w2.heap.size := fun q hq => SDev.lt hS hq
  have M3 : Hid (SMem W3 (w.heap.size + 1) w2.heap.size 27 (.slice s1 ws0.length d1) (.slice none 0 0) (.slice none 0 0) ⟨ws0, [], []⟩) := ⟨unhide hx3, ⟨own_base (own_below hS.o1 (unhide hb3)) (fun q hq => by have := (hS.o1.lt q hq).1; omega), .inl ⟨rfl, none, rfl, .inl rfl⟩, .inl ⟨rfl, none, rfl, .inl rfl⟩, fun h => absurd rfl h, fun h => absurd rfl h, fun h => absurd rfl h⟩, fun q hh e => by have := (hq q hh).2; omega⟩
  have hwl : (⟨ws0, [], []⟩ : Dev).words.length ≤ 32 ∧ cellsN ⟨ws0, [], []⟩ ≤ 0 ∧ 8 ≤ (⟨ws0, [], []⟩ : Dev).words.length := ⟨hl0.1, Nat.le_refl _, hl0.2⟩
  clear hb2 hb3 hx3 hS hq H1 O1 X1
  go_wp2_with fail
  rw [← hW3]
  clear hW3
  obtain ⟨D0, hD0⟩ : ∃ D0 : Dev, D0 = ⟨ws0, [], []⟩ := ⟨_, rfl⟩
  have hw0 : D0.words.length ≤ 32 := by rw [hD0]; exact hl0.1
  have hc0 : cellsN D0 ≤ 0 := by rw [hD0]; exact Nat.le_refl _
  rw [← hD0] at M3 HG
  clear hD0 hwl
  generalize w2.heap.size = db at *
  generalize hv1 : Value.slice s1 ws0.length d1 = v1 at *
  refine (nextTo s a n c (P + 1) 12 _ (unhide H3) (by omega) (by omega) (by omega)).mono ?_
  rintro r w4 ⟨⟨x, rfl, hx0, hx1⟩, hs4, ho4⟩
  obtain ⟨t, rfl⟩ : ∃ t : Nat, x = (t : Int) := ⟨x.toNat, by omega⟩
  have z5 := ho4.size
  have H4 := hide hs4
  have O4 := hide ((unhide O3).trans ho4 (fun _ _ e => e))
  have X4 := hide ((unhide X3).out ho4 (fun e => by omega))
  have M4 : Hid (SMem w4 (w.heap.size + 1) db 27 v1 (.slice none 0 0) (.slice none 0 0) D0) := ⟨(unhide M3).box.out ho4 (fun e => by omega), (unhide M3).dev.out ho4 (fun q hq e => by have := ((unhide M3).dev.lt hq).1; omega), (unhide M3).nd⟩
  clear hs4 ho4 H3 O3 X3 M3 hv1
  have ht : t ≤ 11 := by omega
  clear hx0 hx1
  go_wp2_with fail
  go_loopw [4] (fun i wr => ∃ (j : Nat) (u1 u2 u3 : Value) (Dk : Dev), j ≤ t ∧ i = .int .i64 j ∧ Hid (SMem wr (w.heap.size + 1) db 27 u1 u2 u3 Dk) ∧ Hid (Good Dk) ∧ Hid (cellsN Dk + j ≤ 12) ∧ Hid (Dk.words.length ≤ 32) ∧ Hid (SrcTo wr s a n c (P + 2 + 4 * (t - j))) ∧ Hid (Out (fun q => q = s) w wr) ∧ Hid (Box wr w.heap.size [.slice none 0 0, .slice none 0 0, .slice none 0 0] 27) ∧ db < wr.heap.size) (fun i _ => (intOf i).toNat)
  case atStart => exact ⟨t, _, _, _, D0, Nat.le_refl _, rfl, M4, HG, hide (by omega), hide hw0, (unhide H4).more (by omega), O4, X4, by omega⟩
  case round =>
    obtain ⟨j, u1, u2, u3, Dk, hj, rfl, HM, HGk, HN, HW, HS, HU, HX, hdz⟩ := hrel
    clear M4 HG H4 O4 X4
    obtain ⟨a1, c1, e1, -⟩ := intsAt_own (unhide HM).dev.o1
    obtain ⟨a2, c2, e2, -⟩ := (unhide HM).dev.o2.form
    obtain ⟨a3, c3, e3, -⟩ := (unhide HM).dev.o3.form
    subst e1 e2 e3
    have b0 := (unhide HM).box.cell 0
    have b1 := (unhide HM).box.cell 1
    have b2 := (unhide HM).box.cell 2
    simp at b0 b1 b2
    by_cases hj0 : (0 : Int) < (j : Int)
    · have hsml := (unhide HGk).small
      have hw32 := unhide HW
      go_wp2_with fail
      refine (l2DrawAct_any s a n c _ Dk.words.length _ (unhide HS) (by omega) (by omega) (by omega)).mono ?_
      rintro r w5 ⟨⟨k1, k2, k3, rfl⟩, hs5, ho5⟩
      have z6 := ho5.size
      obtain ⟨W6, hW6, z7, hb6, hx6⟩ := boxes1 w5 [.int .i64 k1, .int .i64 k2, .int .i64 k3] 250
      have S6 := hide (SrcTo.below hs5 (unhide hb6))
      have U6 := hide (((unhide HU).trans ho5 (fun _ _ e => e)).trans (Out.ofBelow (F := fun q => q = s) (unhide hb6)) (fun _ _ e => e))
      have X6 := hide (((unhide HX).out ho5 (fun e => by omega)).below (unhide hb6))
      have M5 : SMem w5 (w.heap.size + 1) db 27 (.slice a1 Dk.words.length c1) (.slice a2 Dk.flights.length c2) (.slice a3 Dk.over.length c3) Dk := ⟨(unhide HM).box.out ho5 (fun e => by omega), (unhide HM).dev.out ho5 (fun q hq e => by have := ((unhide HM).dev.lt hq).1; omega), (unhide HM).nd⟩
      have M6 : Hid (SMem W6 (w.heap.size + 1) db 27 (.slice a1 Dk.words.length c1) (.slice a2 Dk.flights.length c2) (.slice a3 Dk.over.length c3) Dk) := ⟨M5.box.below (unhide hb6), M5.dev.below (unhide hb6), M5.nd⟩
      have y0 := (unhide hx6).cell 0
      have y1 := (unhide hx6).cell 1
      have y2 := (unhide hx6).cell 2
      simp at y0 y1 y2
      clear hs5 ho5 M5 HM HS HU HX b0 b1 b2 hb6 hx6
      go_wp2_with fail
      rw [← hW6]
      clear hW6
      refine (l2Act_any db _ (w.heap.size + 1) _ _ _ Dk w5.heap.size 0 k1 k2 k3 _ (unhide M6) (by omega) (unhide HGk) y0 y1 y2 (by have := unhide HN; omega)).mono ?_
      rintro r w7 ⟨rfl, hC, hO, hE⟩
      have z8 := hO.size
      have hfr : ∀ q, (q = db ∨ SB (.slice a1 Dk.words.length c1) (.slice a2 Dk.flights.length c2) (.slice a3 Dk.over.length c3) Dk q) → w.heap.size < q := fun q hq => by
        rcases hq with rfl | hq
        · omega
        · have h1 := ((unhide M6).dev.lt hq).1
          omega
      have S7 := hide ((unhide S6).above hO (fun q e => by have := hfr q e; omega))
      have U7 := hide ((unhide U6).trans hO (fun q hq e => by have := hfr q e; omega))
      have X7 := hide ((unhide X6).out hO (fun e => by have := hfr _ e; omega))
      obtain ⟨p1, p2, p3, D2, hM7, hG7, hN7, hW7⟩ : ∃ (p1 p2 p3 : Value) (D2 : Dev), SMem w7 (w.heap.size + 1) db 27 p1 p2 p3 D2 ∧ Good D2 ∧ cellsN D2 ≤ cellsN Dk + 1 ∧ D2.words.length ≤ 32 := by
        by_cases h0 : actCode Dk (k1, k2, k3) = 0
        · obtain ⟨p1, p2, p3, hM⟩ := hC h0
          exact ⟨p1, p2, p3, _, hM, (unhide HGk).act h0, cellsN_act _ _, by rw [words_act]; exact hw32⟩
        · rw [hE h0]
          exact ⟨_, _, _, Dk, unhide M6, unhide HGk, by omega, hw32⟩
      have M7 := hide hM7
      have G7 := hide hG7
      have N7 : Hid (cellsN D2 + (j - 1) ≤ 12) := by have := unhide HN; rw [Hid]; omega
      have W7 := hide hW7
      generalize actCode Dk (k1, k2, k3) = cq at *
      clear hC hO hE hfr hM7 hG7 hN7 hW7 M6 S6 U6 X6 HGk HN HW y0 y1 y2
      go_wp2_with fail
      go_roundw
      case rel => exact ⟨j - 1, p1, p2, p3, D2, by omega, by go_num, M7, G7, N7, W7, (unhide S7).more (by omega), U7, X7, by omega⟩
      case measure => simp [intOf]; omega
    · have hj1 : j = 0 := by omega
      have y0 := (unhide HX).cell 0
      have y1 := (unhide HX).cell 1
      have y2 := (unhide HX).cell 2
      have f0 := (unhide HX).frozen 0
      have f1 := (unhide HX).frozen 1
      have f2 := (unhide HX).frozen 2
      simp at y0 y1 y2
      go_wp2_with fail
      clear y0 y1 y2 f0 f1 f2 b0 b1 b2
      generalize hU : ((wr.setCell _ _).setCell _ _).setCell _ _ = U
      obtain ⟨XU, OU⟩ := store3' (unhide HX) hU
      have t0 := (unhide XU).cell 0
      have t1 := (unhide XU).cell 1
      have t2 := (unhide XU).cell 2
      simp at t0 t1 t2
      have OO := (unhide HU).trans (unhide OU) (fun q hq e => by omega)
      have HH := (unhide HS).above (unhide OU) (fun q e => by omega)
      have SS := ((unhide HM).dev.out (unhide OU) (fun q hq e => by have := ((unhide HM).dev.lt hq).1; omega)).base (base' := w.heap.size) (by omega)
      refine bodyPost_ret (v := .agg #[.slice a1 Dk.words.length c1, .slice a2 Dk.flights.length c2, .slice a3 Dk.over.length c3]) (by simp [results, Try.results137, go_sem, t0, t1, t2]) rfl ⟨?_, HH.more (by omega), OO⟩
      exact ⟨_, _, _, rfl, Dk, SS, ⟨unhide HGk, by have := unhide HN; omega, unhide HW⟩⟩
end Go.Proofs.Ytdnfadbkpajloaa
