/-
  What impl.packed answers.
-/
import Derived.Test.YtiopofemelninaaGreatPackMath
import Derived.Test.YtiopofemelninaaGreatDevTo
import Derived.Handy
namespace Go.Proofs.YtiopofemelninaaGreat
open Go.RowKit

theorem own_nil (w : World) (base : Nat) : w.ownsRow base 2 1 (.slice none 0 0) ([] : List Int).length (nums []) := ⟨rfl, .inl ⟨rfl, rfl⟩⟩
theorem own_block {g n c q : Nat} (h : (Value.slice (some ⟨g, 0, none⟩) n c).ownBlock = some q) : q = g := by cases h; rfl
theorem row_lt {w : World} {base g m c n : Nat} {e : TypeId} {x : Int} {l : List Int} (h : w.ownsRow base e 1 (.slice (some ⟨g, 0, none⟩) m c) n (nums (x :: l))) : g < w.heap.size := by
  obtain ⟨b, o, hbo, hlt, -⟩ := (intsAt_own1 h).at (k := 0) (by simp)
  cases hbo
  exact hlt
theorem made8 : (madeCells (Value.int .i64 0).cells (8 * 1)).toList = nums [0, 0, 0, 0, 0, 0, 0, 0] := by kernel_rfl

set_option maxRecDepth 20000 in
set_option maxHeartbeats 2000000 in
theorem packedGone_any (u e : Int) (w : World) :
    Calls Tryz.prog 107 #[.iface 201 (.agg #[.int .i64 u, .int .i64 e])] w fun r w' => WRes w.heap.size w' r (goneCode u e) (goneWords u e) ∧ Below w.heap.size w w' := by
  obtain ⟨i0, hi, hz0, hz1, hz2⟩ := info_parts infoInt64
  obtain ⟨W, hW, hWz, HB0, HX0⟩ := boxes1 w [.int .i64 0, .slice none 0 0] 153
  go_enter Tryz.func107, Tryz.ntmps107
  go_wp2_with fail
  rw [← hW]
  clear hW
  refine (goneFault_any u e _).mono ?_
  rintro r w1 ⟨rfl, hb1⟩
  have HX1 := hide ((unhide HX0).below hb1)
  have HB1 := hide (below_step (unhide HB0) hb1 (by omega))
  have hz1' : w.heap.size < w1.heap.size := by have := hb1.size; omega
  clear hb1 HX0 HB0 hWz
  have q0 := (unhide HX1).cell 0
  have q1 := (unhide HX1).cell 1
  have f0 := (unhide HX1).frozen 0
  have f1 := (unhide HX1).frozen 1
  simp only [List.getElem?_cons_zero, List.getElem?_cons_succ] at q0 q1
  rcases headCode_cases 3 u 0 e with hc | hc
  · rw [hc]
    go_wp2_with (at_make; refine wpList_make_full _ rfl _ _ 24 rfl w1.heap.size 2 i0 (.int .i64 0) 1 Tryz.underlying24 hi hz0 hz1 .i64 .i64 8 8 8 rfl rfl rfl rfl (by rw [hz2]; decide) (by unfold maxLen; decide) (Nat.le_refl _) ?_; intro w2 hown hgrow)
    have hm : (madeCells (Value.int .i64 0).cells (8 * 1)).toList = nums [0, 0, 0, 0, 0, 0, 0, 0] := made8
    rw [hm] at hown
    have hb2 : Below w1.heap.size w1 w2 := (Below.refl _ _).grown hgrow (Nat.le_refl _) (fun k hk => by cases hk)
    have HO2 := hide hown
    clear hgrow hown hm
    go_wp2_with fail
    refine (goneHead_any u e _).mono ?_
    rintro r w3 ⟨rfl, hb3⟩
    go_wp2_with fail
    refine (implHeadWord_any 3 u 0 e _).mono ?_
    rintro r w4 ⟨rfl, hb4⟩
    have hok := headCode_ok hc
    have hv : hwVal 3 u 0 e = .agg #[.int .i64 0, .int .i64 (headWordI 3 u 0 e)] := by rw [hwVal, hc, if_pos hok]
    have HC := hide hc
    rw [hv]
    clear hv hok hc q0 q1 f0 f1
    generalize hx : headWordI 3 u 0 e = x at *
    have HXE := hide hx
    clear hx
    have hb34 := below_step hb3 hb4 hb3.size
    have HX4 := hide (((unhide HX1).below hb2).below hb34)
    have HO4 := hide (own_below (unhide HO2) hb34)
    have HB4 := hide (below_step (below_step (unhide HB1) hb2 (by omega)) hb34 (by have := hb2.size; omega))
    have z4 : w1.heap.size ≤ w4.heap.size := by have := hb2.size; have := hb34.size; omega
    clear hb2 hb3 hb4 hb34 HO2 HX1 HB1
    have q0 := (unhide HX4).cell 0
    have q1 := (unhide HX4).cell 1
    have f0 := (unhide HX4).frozen 0
    have f1 := (unhide HX4).frozen 1
    simp only [List.getElem?_cons_zero, List.getElem?_cons_succ] at q0 q1
    have r0 := (unhide HO4).cellAt 0 (by decide)
    have g0 := (unhide HO4).frozenAt 0
    simp only [nums, List.map_cons, List.getElem?_cons_zero] at r0
    have hf : ∀ w : World, (Instr.field 37 (.agg #[.int .i64 0, .int .i64 x]) 1).run Tryz.prog w = .ok (.int .i64 x) w := fun w => by kernel_rfl
    have a1 : ∀ w : World, (Instr.typeAssert (.iface 201 (.agg #[.int .i64 u, .int .i64 e])) 170 197 true).run Tryz.prog w = .ok (.tuple #[.agg #[.int .i64 0, .bool false, .int .i64 0, .string ByteArray.empty, .int .i64 0, .int .i64 0], .bool false]) w := fun w => by kernel_rfl
    have a2 : ∀ w : World, (Instr.typeAssert (.iface 201 (.agg #[.int .i64 u, .int .i64 e])) 170 199 true).run Tryz.prog w = .ok (.tuple #[.agg #[.int .i64 0, .int .i64 0, .slice none 0 0, .int .i64 0], .bool false]) w := fun w => by kernel_rfl
    obtain ⟨hst, hgr⟩ := (unhide HO4).stored 0 (.int .i64 x)
    have HST := hide hst
    clear hst hgr
    have ne : w.heap.size ≠ w1.heap.size := by omega
    go_wp2_with fail
    generalize hV : w4.setCell ⟨w1.heap.size, 0, none⟩ (.int .i64 x) = V at *
    have HXV := (unhide HX4).other' hV ne
    have HBV := hide (below_set' (unhide HB4) hV (by show w.heap.size ≤ w1.heap.size; omega))
    clear hV
    generalize hU : (V.setCell ⟨w.heap.size, 0, none⟩ (.int .i64 0)).setCell ⟨w.heap.size, 1, none⟩ (.slice (some ⟨w1.heap.size, 0, none⟩) 8 8) = U at *
    obtain ⟨HXU, HOU⟩ := store2' HXV hU
    have HOWN := (unhide HOU).own (unhide HST) (fun q hq => by have := own_block hq; omega)
    clear hU
    have p0 := (unhide HXU).cell 0
    have p1 := (unhide HXU).cell 1
    simp only [List.getElem?_cons_zero, List.getElem?_cons_succ] at p0 p1
    refine bodyPost_ret (v := .agg #[.int .i64 0, .slice (some ⟨w1.heap.size, 0, none⟩) 8 8]) (by simp [results, Tryz.results107, go_sem, p0, p1]) rfl ⟨?_, ?_⟩
    · have hg : goneCode u e = 0 := unhide HC
      have hw : goneWords u e = [x, 0, 0, 0, 0, 0, 0, 0] := by rw [goneWords, if_pos hg, unhide HXE]
      rw [hg, hw]
      exact ⟨_, rfl, own_base HOWN (fun q hq => by have := own_block hq; omega)⟩
    · exact (unhide HOU).below (unhide HBV) (Nat.le_refl _) (fun q hq hF => by omega)
  · rw [hc]
    have HC := hide hc
    clear hc
    go_wp2_with fail
    generalize hU : (w1.setCell ⟨w.heap.size, 0, none⟩ (.int .i64 3)).setCell ⟨w.heap.size, 1, none⟩ (.slice none 0 0) = U at *
    obtain ⟨HXU, HOU⟩ := store2' (unhide HX1) hU
    clear hU
    have p0 := (unhide HXU).cell 0
    have p1 := (unhide HXU).cell 1
    simp only [List.getElem?_cons_zero, List.getElem?_cons_succ] at p0 p1
    refine bodyPost_ret (v := .agg #[.int .i64 3, .slice none 0 0]) (by simp [results, Tryz.results107, go_sem, p0, p1]) rfl ⟨?_, ?_⟩
    · have hg : goneCode u e = 3 := unhide HC
      have hw : goneWords u e = [] := by rw [goneWords, if_neg (by omega)]
      rw [hg, hw]
      exact ⟨_, rfl, own_nil _ _⟩
    · exact (unhide HOU).below (unhide HB1) (Nat.le_refl _) (fun q hq hF => by omega)

theorem nodeKind_any (u : Int) (d : Bool) (p : Int) (nm : ByteArray) (s : Int) (w : World) :
    Calls Tryz.prog 132 #[.agg #[.int .i64 u, .bool d, .int .i64 p, .string nm, .int .i64 s]] w fun r w' => r = .returned (.int .i64 (nodeKindI d)) ∧ Below w.heap.size w w' := by
  cases d
  · go_enter Tryz.func132, Tryz.ntmps132
    go_wp2
    go_ret
    exact ⟨rfl, below_new _ _⟩
  · go_enter Tryz.func132, Tryz.ntmps132
    go_wp2
    go_ret
    exact ⟨rfl, below_new _ _⟩

set_option maxRecDepth 20000 in
set_option maxHeartbeats 4000000 in
theorem packedNode_any (u : Int) (d : Bool) (p : Int) (nm : ByteArray) (s e : Int) (w : World) (hs : nm.size ≤ maxLen) :
    Calls Tryz.prog 107 #[.iface 197 (.agg #[.int .i64 u, .bool d, .int .i64 p, .string nm, .int .i64 s, .int .i64 e])] w fun r w' => WRes w.heap.size w' r (nodePCode u d p nm.data.toList s e) (nodeWords u d p nm.data.toList s e) ∧ Below w.heap.size w w' := by
  obtain ⟨i0, hi, hz0, hz1, hz2⟩ := info_parts infoInt64
  obtain ⟨W, hW, hWz, HB0, HX0⟩ := boxes1 w [.int .i64 0, .slice none 0 0] 153
  go_enter Tryz.func107, Tryz.ntmps107
  go_wp2_with fail
  rw [← hW]
  clear hW
  refine (nodeFault_any u d p nm s e _ hs).mono ?_
  rintro r w1 ⟨rfl, hb1⟩
  have HX1 := hide ((unhide HX0).below hb1)
  have HB1 := hide (below_step (unhide HB0) hb1 (by omega))
  have hz1' : w.heap.size < w1.heap.size := by have := hb1.size; omega
  clear hb1 HX0 HB0 hWz
  have q0 := (unhide HX1).cell 0
  have q1 := (unhide HX1).cell 1
  have f0 := (unhide HX1).frozen 0
  have f1 := (unhide HX1).frozen 1
  simp only [List.getElem?_cons_zero, List.getElem?_cons_succ] at q0 q1
  generalize hcd : orI (nodeCode u d p nm.data.toList s) (headCode 1 u 0 e) = cd at *
  by_cases hc : cd = 0
  · subst hc
    obtain ⟨hn0, hc⟩ := orI_zero hcd
    obtain ⟨-, hnm⟩ := nodeCode_eq0 hn0
    have HCD := hide hcd
    have HNM := hide hnm
    clear hcd hn0 hnm
    go_wp2_with (at_make; refine wpList_make_full _ rfl _ _ 24 rfl w1.heap.size 2 i0 (.int .i64 0) 1 Tryz.underlying24 hi hz0 hz1 .i64 .i64 8 8 8 rfl rfl rfl rfl (by rw [hz2]; decide) (by unfold maxLen; decide) (Nat.le_refl _) ?_; intro w2 hown hgrow)
    rw [made8] at hown
    have hb2 : Below w1.heap.size w1 w2 := (Below.refl _ _).grown hgrow (Nat.le_refl _) (fun k hk => by cases hk)
    have HO2 := hide hown
    clear hgrow hown
    go_wp2_with fail
    refine (nodeHead_any u d p nm s e _).mono ?_
    rintro r w3 ⟨rfl, hb3⟩
    go_wp2_with fail
    refine (implHeadWord_any 1 u 0 e _).mono ?_
    rintro r w4 ⟨rfl, hb4⟩
    have hok := headCode_ok hc
    have hv : hwVal 1 u 0 e = .agg #[.int .i64 0, .int .i64 (headWordI 1 u 0 e)] := by rw [hwVal, hc, if_pos hok]
    rw [hv]
    clear hv hok hc q0 q1 f0 f1
    generalize hx : headWordI 1 u 0 e = x at *
    have HXE := hide hx
    clear hx
    have hb34 := below_step hb3 hb4 hb3.size
    have HX4 := hide (((unhide HX1).below hb2).below hb34)
    have HO4 := hide (own_below (unhide HO2) hb34)
    have HB4 := hide (below_step (below_step (unhide HB1) hb2 (by omega)) hb34 (by have := hb2.size; omega))
    have z4 : w1.heap.size ≤ w4.heap.size := by have := hb2.size; have := hb34.size; omega
    clear hb2 hb3 hb4 hb34 HO2 HX1 HB1
    have r0 := (unhide HO4).cellAt 0 (by decide)
    have g0 := (unhide HO4).frozenAt 0
    simp only [nums, List.map_cons, List.getElem?_cons_zero] at r0
    have hf : ∀ w : World, (Instr.field 37 (.agg #[.int .i64 0, .int .i64 x]) 1).run Tryz.prog w = .ok (.int .i64 x) w := fun w => by kernel_rfl
    have a1 : ∀ w : World, (Instr.typeAssert (.iface 197 (.agg #[.int .i64 u, .bool d, .int .i64 p, .string nm, .int .i64 s, .int .i64 e])) 170 197 true).run Tryz.prog w = .ok (.tuple #[.agg #[.int .i64 u, .bool d, .int .i64 p, .string nm, .int .i64 s, .int .i64 e], .bool true]) w := fun w => by kernel_rfl
    have HST := hide ((unhide HO4).stored 0 (.int .i64 x)).1
    have ne : w.heap.size ≠ w1.heap.size := by omega
    have zr : w1.heap.size < w4.heap.size := row_lt (unhide HO4)
    go_wp2_with fail
    generalize hV : w4.setCell ⟨w1.heap.size, 0, none⟩ (.int .i64 x) = V at *
    have HXV := hide ((unhide HX4).other' hV ne)
    have HBV := hide (below_set' (unhide HB4) hV (by show w.heap.size ≤ w1.heap.size; omega))
    have hVz : V.heap.size = w4.heap.size := by rw [← hV]; simp [World.setCell]
    obtain ⟨W5, hW5, hz5, HB5, HX5⟩ := boxes1 V [.int .i64 u, .bool d, .int .i64 p, .string nm, .int .i64 s, .int .i64 e] 197
    rw [← hW5]
    refine (nodeKind_any u d p nm s _).mono ?_
    rintro r w6 ⟨rfl, hb6⟩
    have hb56 := below_step (unhide HB5) hb6 (unhide HB5).size
    have HX6 := hide ((unhide HXV).below hb56)
    have HT6 := hide ((unhide HX5).below hb6)
    have HO6 := hide (own_below (unhide HST) hb56)
    have HB6 := hide (below_step (unhide HBV) hb56 (unhide HBV).size)
    have z6 : w4.heap.size < w6.heap.size := by have := hb6.size; omega
    rw [hVz] at HT6
    clear hb6 hb56 HX5 HB5 hz5 hW5 hVz hV HXV HBV HST HX4 HO4 HB4 r0 g0 hf a1
    have t2 := (unhide HT6).cell 2
    have t3 := (unhide HT6).cell 3
    have r1 := (unhide HO6).cellAt 1 (by decide)
    have r2 := (unhide HO6).cellAt 2 (by decide)
    have g1 := (unhide HO6).frozenAt 1
    have g2 := (unhide HO6).frozenAt 2
    simp only [List.getElem?_cons_zero, List.getElem?_cons_succ] at t2 t3
    simp only [nums, List.map_cons, List.set_cons_zero, List.getElem?_cons_zero, List.getElem?_cons_succ] at r1 r2
    have ne2 : w4.heap.size ≠ w1.heap.size := by omega
    go_wp2_with fail
    generalize hV1 : w6.setCell ⟨w1.heap.size, 1, none⟩ (.int .i64 (nodeKindI d)) = V1 at *
    have HO7 := hide (hV1 ▸ ((unhide HO6).stored 1 (.int .i64 (nodeKindI d))).1)
    have HX7 := hide ((unhide HX6).other' hV1 ne)
    have HT7 := hide ((unhide HT6).other' hV1 ne2)
    have HB7 := hide (below_set' (unhide HB6) hV1 (by show w.heap.size ≤ w1.heap.size; omega))
    clear hV1 HO6 HX6 HT6 HB6 t2 t3 r1 r2 g1 g2
    generalize hV2 : V1.setCell ⟨w1.heap.size, 2, none⟩ (.int .i64 p) = V2 at *
    have HO8 := hide (hV2 ▸ ((unhide HO7).stored 2 (.int .i64 p)).1)
    have HX8 := hide ((unhide HX7).other' hV2 ne)
    have HT8 := hide ((unhide HT7).other' hV2 ne2)
    have HB8 := hide (below_set' (unhide HB7) hV2 (by show w.heap.size ≤ w1.heap.size; omega))
    clear hV2 HO7 HX7 HT7 HB7
    refine (implNameWord_any nm _ hs).mono ?_
    rintro r w9 ⟨rfl, hb9⟩
    have hnv : nwVal nm.data.toList = .agg #[.int .i64 0, .int .i64 (nameWordL nm.data.toList)] := by rw [nwVal, if_pos (unhide HNM), if_pos (unhide HNM)]
    rw [hnv]
    clear hnv
    generalize hy : nameWordL nm.data.toList = y at *
    have HY := hide hy
    clear hy
    have HO9 := hide (own_below (unhide HO8) hb9)
    have HX9 := hide ((unhide HX8).below hb9)
    have HT9 := hide ((unhide HT8).below hb9)
    have HB9 := hide (below_step (unhide HB8) hb9 (unhide HB8).size)
    clear hb9 HO8 HX8 HT8 HB8
    have hf : ∀ w : World, (Instr.field 37 (.agg #[.int .i64 0, .int .i64 y]) 1).run Tryz.prog w = .ok (.int .i64 y) w := fun w => by kernel_rfl
    have t4 := (unhide HT9).cell 4
    have q0 := (unhide HX9).cell 0
    have q1 := (unhide HX9).cell 1
    have f0 := (unhide HX9).frozen 0
    have f1 := (unhide HX9).frozen 1
    have r3 := (unhide HO9).cellAt 3 (by decide)
    have r4 := (unhide HO9).cellAt 4 (by decide)
    have g3 := (unhide HO9).frozenAt 3
    have g4 := (unhide HO9).frozenAt 4
    simp only [List.getElem?_cons_zero, List.getElem?_cons_succ] at t4 q0 q1
    simp only [nums, List.map_cons, List.set_cons_zero, List.set_cons_succ, List.getElem?_cons_zero, List.getElem?_cons_succ] at r3 r4
    go_wp2_with fail
    generalize hV3 : w9.setCell ⟨w1.heap.size, 3, none⟩ (.int .i64 y) = V3 at *
    have HO10 := hide (hV3 ▸ ((unhide HO9).stored 3 (.int .i64 y)).1)
    have HX10 := hide ((unhide HX9).other' hV3 ne)
    have HB10 := hide (below_set' (unhide HB9) hV3 (by show w.heap.size ≤ w1.heap.size; omega))
    clear hV3 HO9 HX9 HT9 HB9 t4 q0 q1 f0 f1 r3 r4 g3 g4 hf
    generalize hV4 : V3.setCell ⟨w1.heap.size, 4, none⟩ (.int .i64 s) = V4 at *
    have HO11 := hide (hV4 ▸ ((unhide HO10).stored 4 (.int .i64 s)).1)
    have HX11 := hide ((unhide HX10).other' hV4 ne)
    have HB11 := hide (below_set' (unhide HB10) hV4 (by show w.heap.size ≤ w1.heap.size; omega))
    clear hV4 HO10 HX10 HB10
    generalize hU : (V4.setCell ⟨w.heap.size, 0, none⟩ (.int .i64 0)).setCell ⟨w.heap.size, 1, none⟩ (.slice (some ⟨w1.heap.size, 0, none⟩) 8 8) = U at *
    obtain ⟨HXU, HOU⟩ := store2' (unhide HX11) hU
    have HOWN := (unhide HOU).own (unhide HO11) (fun q hq => by have := own_block hq; omega)
    clear hU
    have p0 := (unhide HXU).cell 0
    have p1 := (unhide HXU).cell 1
    simp only [List.getElem?_cons_zero, List.getElem?_cons_succ] at p0 p1
    refine bodyPost_ret (v := .agg #[.int .i64 0, .slice (some ⟨w1.heap.size, 0, none⟩) 8 8]) (by simp [results, Tryz.results107, go_sem, p0, p1]) rfl ⟨?_, ?_⟩
    · have hg : nodePCode u d p nm.data.toList s e = 0 := unhide HCD
      have hw : nodeWords u d p nm.data.toList s e = [x, nodeKindI d, p, y, s, 0, 0, 0] := by rw [nodeWords, if_pos hg, unhide HXE, unhide HY]
      rw [hg, hw]
      exact ⟨_, rfl, own_base HOWN (fun q hq => by have := own_block hq; omega)⟩
    · exact (unhide HOU).below (unhide HB11) (Nat.le_refl _) (fun q hq hF => by omega)
  · have HC := hide hc
    have hcb : (cd != 0) = true := by simpa using hc
    have HCD := hide hcd
    clear hc hcd
    go_wp2_with fail
    generalize hU : (w1.setCell ⟨w.heap.size, 0, none⟩ (.int .i64 cd)).setCell ⟨w.heap.size, 1, none⟩ (.slice none 0 0) = U at *
    obtain ⟨HXU, HOU⟩ := store2' (unhide HX1) hU
    clear hU
    have p0 := (unhide HXU).cell 0
    have p1 := (unhide HXU).cell 1
    simp only [List.getElem?_cons_zero, List.getElem?_cons_succ] at p0 p1
    refine bodyPost_ret (v := .agg #[.int .i64 cd, .slice none 0 0]) (by simp [results, Tryz.results107, go_sem, p0, p1]) rfl ⟨?_, ?_⟩
    · have hg : nodePCode u d p nm.data.toList s e = cd := unhide HCD
      have hw : nodeWords u d p nm.data.toList s e = [] := by rw [nodeWords, if_neg (by rw [hg]; exact unhide HC)]
      rw [hg, hw]
      exact ⟨_, rfl, own_nil _ _⟩
    · exact (unhide HOU).below (unhide HB1) (Nat.le_refl _) (fun q hq hF => by omega)
end Go.Proofs.YtiopofemelninaaGreat
