/-
  What impl.packed answers of a piece.
-/
import Derived.Test.YtiopofemelninaaGreatPackWalk
import Derived.BigRegion
import Derived.Deep.SlicePairs
import Derived.Laws.CopyRow
namespace Go.Proofs.YtiopofemelninaaGreat
open Go.RowKit Go.Deep
open Go.WideShapes (add_plain)
theorem nums_oneCell' (l : List Int) : ∀ u ∈ nums l, u.oneCell' = true := by
  intro u hu
  simp only [nums, List.mem_map] at hu
  obtain ⟨x, _, rfl⟩ := hu
  rfl

theorem box_row {w : World} {base g : Nat} {l : List Int} {e : TypeId} (h : w.ownsRow base e 1 (.slice (some ⟨g, 0, none⟩) l.length l.length) l.length (nums l)) : Box w g (nums l) e ∧ base ≤ g ∧ l.length ≤ maxLen := by
  rcases h.2 with ⟨h1, _⟩ | ⟨g', cap, cur, h1, h2, h3, h4, h5, h6, h7⟩
  · cases h1
  · cases h1
    have hc : cur = (nums l).toArray := by
      rw [List.take_of_length_le (by rw [Array.length_toList, h6]; exact Nat.le_refl _)] at h7
      rw [← h7]
    rw [hc] at h3
    exact ⟨h3, h2, h5⟩
theorem row_box {w : World} {base g : Nat} {l : List Int} {e : TypeId} (h : Box w g (nums l) e) (hb : base ≤ g) (hm : l.length ≤ maxLen) : w.ownsRow base e 1 (.slice (some ⟨g, 0, none⟩) l.length l.length) l.length (nums l) :=
  ⟨by rw [nums_length]; omega, .inr ⟨g, l.length, (nums l).toArray, rfl, hb, h, Nat.le_refl _, hm, by simp [nums], by rw [List.take_of_length_le (by simp [nums])]⟩⟩
theorem out_setRow (w : World) (g : Nat) (cs : Array Value) : Out (fun q => q = g) w (w.setRow g cs) :=
  ⟨rfl, rfl, rfl, by simp [World.setRow], fun q _ hq => setRow_other w g q cs hq⟩
theorem sizeInt64 : (Tryz.prog.info? 2).map (·.size) = some 1 := by kernel_rfl
theorem copy4 {w : World} {g b o c : Nat} {x n0 n1 n2 n3 : Int} (ty : TypeId) (hg : Box w g (nums [x, 0, 0, 0, 0, 0, 0, 0]) 2) (h : IntsAt w (some ⟨b, o, none⟩) [n0, n1, n2, n3]) :
    (Builtin.copy_ #[24, 24] ty #[.slice (some ⟨g, 1, none⟩) 7 7, .slice (some ⟨b, o, none⟩) 4 c]).run Tryz.prog w = .ok (.int .i64 4) (w.setRow g (nums [x, n0, n1, n2, n3, 0, 0, 0]).toArray) := by
  obtain ⟨b', o', hbo, _, hc⟩ := h.at (k := 0) (by simp)
  cases hbo
  have h0 := hc 0 (by simp)
  have h1 := hc 1 (by simp)
  have h2 := hc 2 (by simp)
  have h3 := hc 3 (by simp)
  have := run_copy_row Tryz.prog w 24 24 ty 2 g 1 7 7 ⟨b, o, none⟩ 4 c (nums [x, 0, 0, 0, 0, 0, 0, 0]).toArray 2 (nums [n0, n1, n2, n3]) Tryz.underlying24 sizeInt64 hg rfl
    (by
      intro j v hj
      rw [add_plain]
      match j, hj with
      | 0, hj => simp [nums] at hj; subst hj; exact h0
      | 1, hj => simp [nums] at hj; subst hj; exact h1
      | 2, hj => simp [nums] at hj; subst hj; exact h2
      | 3, hj => simp [nums] at hj; subst hj; exact h3
      | j + 4, hj => simp [nums] at hj) (by simp [nums]) (nums_oneCell' _)
  rw [this]
  simp [nums, goInt]
set_option maxRecDepth 20000 in
set_option maxHeartbeats 4000000 in
theorem packedPiece_any (u i : Int) (a : Option Addr) (c : Nat) (l : List Int) (e : Int) (w : World) (h : IntsAt w a l) (hl : l.length ≤ 1048576) :
    Calls Tryz.prog 107 #[.iface 199 (.agg #[.int .i64 u, .int .i64 i, .slice a l.length c, .int .i64 e])] w fun r w' => WRes w.heap.size w' r (dataCode u i l e) (dataWords u i l e) ∧ Below w.heap.size w w' := by
  obtain ⟨i0, hi, hz0, hz1, hz2⟩ := info_parts infoInt64
  obtain ⟨W, hW, hWz, HB0, HX0⟩ := boxes1 w [.int .i64 0, .slice none 0 0] 153
  have H := hide h
  clear h
  go_enter Tryz.func107, Tryz.ntmps107
  go_wp2_with fail
  rw [← hW]
  clear hW
  refine (pieceFault_any u i a c l e _ ((unhide H).below (unhide HB0)) hl).mono ?_
  rintro r w1 ⟨rfl, hb1⟩
  have HX1 := hide ((unhide HX0).below hb1)
  have HB1 := hide (below_step (unhide HB0) hb1 (by omega))
  have hz1' : w.heap.size < w1.heap.size := by have := hb1.size; omega
  clear hb1 HX0 HB0 hWz
  have q0 := (unhide HX1).cell 0
  have q1 := (unhide HX1).cell 1
  have f0 := (unhide HX1).frozen 0
  have f1 := (unhide HX1).frozen 1
  simp only [List.getElem?_cons_zero, List.getElem?_cons_succ] at q0 q1
  generalize hcd : orI (headCode 2 u i e) (numsCode l) = cd at *
  by_cases hc : cd = 0
  · subst hc
    obtain ⟨hc, hn0⟩ := orI_zero hcd
    obtain ⟨h4, -⟩ := numsCode_eq0 hn0
    have HCD := hide hcd
    clear hcd hn0
    obtain ⟨n0, n1, n2, n3, rfl⟩ : ∃ n0 n1 n2 n3, l = [n0, n1, n2, n3] := by
      match l, h4 with
      | [n0, n1, n2, n3], _ => exact ⟨n0, n1, n2, n3, rfl⟩
    clear h4
    go_wp2_with (at_make; refine wpList_make_full _ rfl _ _ 24 rfl w1.heap.size 2 i0 (.int .i64 0) 1 Tryz.underlying24 hi hz0 hz1 .i64 .i64 8 8 8 rfl rfl rfl rfl (by rw [hz2]; decide) (by unfold maxLen; decide) (Nat.le_refl _) ?_; intro w2 hown hgrow)
    rw [made8] at hown
    have hb2 : Below w1.heap.size w1 w2 := (Below.refl _ _).grown hgrow (Nat.le_refl _) (fun k hk => by cases hk)
    have HO2 := hide hown
    clear hgrow hown
    go_wp2_with fail
    refine (pieceHead_any u i _ e _).mono ?_
    rintro r w3 ⟨rfl, hb3⟩
    go_wp2_with fail
    refine (implHeadWord_any 2 u i e _).mono ?_
    rintro r w4 ⟨rfl, hb4⟩
    have hok := headCode_ok hc
    have hv : hwVal 2 u i e = .agg #[.int .i64 0, .int .i64 (headWordI 2 u i e)] := by rw [hwVal, hc, if_pos hok]
    rw [hv]
    clear hv hok hc q0 q1 f0 f1
    generalize hx : headWordI 2 u i e = x at *
    have HXE := hide hx
    clear hx
    have hb34 := below_step hb3 hb4 hb3.size
    have HX4 := hide (((unhide HX1).below hb2).below hb34)
    have HO4 := hide (own_below (unhide HO2) hb34)
    have HB4 := hide (below_step (below_step (unhide HB1) hb2 (by omega)) hb34 (by have := hb2.size; omega))
    have z4 : w1.heap.size ≤ w4.heap.size := by have := hb2.size; have := hb34.size; omega
    clear hb2 hb3 hb4 hb34 HO2 HX1 HB1
    have r0 := (unhide HO4).cellAt 0 (by decide)
    have g0 := (unhide HO4).frozenAt 0
    simp only [nums, List.map_cons, List.getElem?_cons_zero] at r0
    have hf : ∀ w : World, (Instr.field 37 (.agg #[.int .i64 0, .int .i64 x]) 1).run Tryz.prog w = .ok (.int .i64 x) w := fun w => by kernel_rfl
    have a1 : ∀ w : World, (Instr.typeAssert (.iface 199 (.agg #[.int .i64 u, .int .i64 i, .slice a 4 c, .int .i64 e])) 170 197 true).run Tryz.prog w = .ok (.tuple #[.agg #[.int .i64 0, .bool false, .int .i64 0, .string ByteArray.empty, .int .i64 0, .int .i64 0], .bool false]) w := fun w => by kernel_rfl
    have a2 : ∀ w : World, (Instr.typeAssert (.iface 199 (.agg #[.int .i64 u, .int .i64 i, .slice a 4 c, .int .i64 e])) 170 199 true).run Tryz.prog w = .ok (.tuple #[.agg #[.int .i64 u, .int .i64 i, .slice a 4 c, .int .i64 e], .bool true]) w := fun w => by kernel_rfl
    have HST := hide ((unhide HO4).stored 0 (.int .i64 x)).1
    have ne : w.heap.size ≠ w1.heap.size := by omega
    have zr : w1.heap.size < w4.heap.size := row_lt (unhide HO4)
    go_wp2_with fail
    generalize hV : w4.setCell ⟨w1.heap.size, 0, none⟩ (.int .i64 x) = V at *
    have HXV := hide ((unhide HX4).other' hV ne)
    have HBV := hide (below_set' (unhide HB4) hV (by show w.heap.size ≤ w1.heap.size; omega))
    have hVz : V.heap.size = w4.heap.size := by rw [← hV]; simp [World.setCell]
    obtain ⟨W5, hW5, hz5, HB5, HX5⟩ := boxes1 V [.int .i64 u, .int .i64 i, .slice a 4 c, .int .i64 e] 199
    rw [← hW5]
    have HX6 := hide ((unhide HXV).below (unhide HB5))
    have HO6 := hide (own_below (unhide HST) (unhide HB5))
    have HB6 := hide (below_step (unhide HBV) (unhide HB5) (unhide HBV).size)
    have z6 : w4.heap.size < W5.heap.size := by omega
    have HT6 := HX5
    rw [hVz] at HT6
    clear HX5 HB5 hz5 hW5 hVz hV HXV HBV HST HX4 HO4 HB4 r0 g0 hf a1 a2
    have HI := (unhide H).below (unhide HB6)
    obtain ⟨b, o, rfl, -, -⟩ := HI.at (k := 0) (by simp)
    obtain ⟨hrow, -, -⟩ := box_row (l := [x, 0, 0, 0, 0, 0, 0, 0]) (unhide HO6)
    have hcp : ∀ ty, (Builtin.copy_ #[24, 24] ty #[.slice (some ⟨w1.heap.size, 1, none⟩) 7 7, .slice (some ⟨b, o, none⟩) 4 c]).run Tryz.prog W5.drew = .ok (.int .i64 4) (W5.drew.setRow w1.heap.size (nums [x, n0, n1, n2, n3, 0, 0, 0]).toArray) := fun ty => copy4 ty hrow.drew (HI.keep (Nat.le_refl _) fun _ _ _ => rfl)
    have t2 : W5.drew.cell? ⟨w4.heap.size, 2, none⟩ = some (.slice (some ⟨b, o, none⟩) 4 c) := by
      rw [(unhide HT6).drew.cell 2]; rfl
    have HR := hide hrow
    have HII := hide HI
    clear hrow HI
    obtain ⟨R, hR⟩ : ∃ R, R = W5.drew.setRow w1.heap.size (nums [x, n0, n1, n2, n3, 0, 0, 0]).toArray := ⟨_, rfl⟩
    rw [← hR] at hcp
    have HOUT : Hid (Out (fun q => q = w1.heap.size) W5 R) := hR ▸ (out_setRow W5.drew w1.heap.size _).undrew
    have HRR : Hid (Box R w1.heap.size (nums [x, n0, n1, n2, n3, 0, 0, 0]) 2) := by
      rw [hR]; exact setRow_heap W5.drew w1.heap.size _ _ _ _ (unhide HR).drew
    have HXR := hide ((unhide HX6).out (unhide HOUT) ne)
    have HBR := hide ((unhide HOUT).below (unhide HB6) (Nat.le_refl _) (fun q hq hF => by omega))
    clear hR
    go_region
    clear t2 hcp HR HII HT6 HB6 HX6 HO6 HOUT
    have q0 := (unhide HXR).cell 0
    have q1 := (unhide HXR).cell 1
    have f0 := (unhide HXR).frozen 0
    have f1 := (unhide HXR).frozen 1
    simp only [List.getElem?_cons_zero, List.getElem?_cons_succ] at q0 q1
    go_wp2_with fail
    generalize hU : (R.setCell ⟨w.heap.size, 0, none⟩ (.int .i64 0)).setCell ⟨w.heap.size, 1, none⟩ (.slice (some ⟨w1.heap.size, 0, none⟩) 8 8) = U at *
    obtain ⟨HXU, HOU⟩ := store2' (unhide HXR) hU
    have HOWN := (unhide HOU).own (row_box (l := [x, n0, n1, n2, n3, 0, 0, 0]) (base := w.heap.size) (unhide HRR) (by omega) (by simp [maxLen])) (fun q hq => by have := own_block hq; omega)
    clear hU
    have p0 := (unhide HXU).cell 0
    have p1 := (unhide HXU).cell 1
    simp only [List.getElem?_cons_zero, List.getElem?_cons_succ] at p0 p1
    refine bodyPost_ret (v := .agg #[.int .i64 0, .slice (some ⟨w1.heap.size, 0, none⟩) 8 8]) (by simp [results, Tryz.results107, go_sem, p0, p1]) rfl ⟨?_, ?_⟩
    · have hg : dataCode u i [n0, n1, n2, n3] e = 0 := unhide HCD
      have hw : dataWords u i [n0, n1, n2, n3] e = [x, n0, n1, n2, n3, 0, 0, 0] := by rw [dataWords, if_pos hg, unhide HXE]; rfl
      rw [hg, hw]
      exact ⟨_, rfl, HOWN⟩
    · exact (unhide HOU).below (unhide HBR) (Nat.le_refl _) (fun q hq hF => by omega)
  · have HC := hide hc
    have hcb : (cd != 0) = true := by simpa using hc
    have HCD := hide hcd
    clear hc hcd
    go_wp2_with fail
    generalize hU : (w1.setCell ⟨w.heap.size, 0, none⟩ (.int .i64 cd)).setCell ⟨w.heap.size, 1, none⟩ (.slice none 0 0) = U at *
    obtain ⟨HXU, HOU⟩ := store2' (unhide HX1) hU
    clear hU
    have p0 := (unhide HXU).cell 0
    have p1 := (unhide HXU).cell 1
    simp only [List.getElem?_cons_zero, List.getElem?_cons_succ] at p0 p1
    refine bodyPost_ret (v := .agg #[.int .i64 cd, .slice none 0 0]) (by simp [results, Tryz.results107, go_sem, p0, p1]) rfl ⟨?_, ?_⟩
    · have hg : dataCode u i l e = cd := unhide HCD
      have hw : dataWords u i l e = [] := by rw [dataWords, if_neg (by rw [hg]; exact unhide HC)]
      rw [hg, hw]
      exact ⟨_, rfl, own_nil _ _⟩
    · exact (unhide HOU).below (unhide HB1) (Nat.le_refl _) (fun q hq hF => by omega)
end Go.Proofs.YtiopofemelninaaGreat
