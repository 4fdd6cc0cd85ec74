/-
  What the laws' own copies of records (Item) answer.
-/
import Derived.Test.YtcmekhpphgkglaaDoorItemMath
import Derived.Test.YtcmekhpphgkglaaDoorResWalk
import Derived.Test.YtcmekhpphgkglaaDoorWideBox
import Derived.OwnWalk
namespace Go.Proofs.YtcmekhpphgkglaaDoor
open Go.RowKit
set_option linter.unusedVariables false

set_option maxRecDepth 20000 in
set_option maxHeartbeats 2000000 in
theorem toItem_any (p : ByteArray) (d : Bool) (l : List Int) (a : Option Addr) (c : Nat) (w : World) (h : IntsAt w a l) (hn : l.length ≤ 1048576) :
    Calls Tryd.prog 19 #[.agg #[.string p, .bool d, .slice a l.length c]] w fun r w' => (∃ g, r = .returned (.agg #[.string p, .bool d, .slice (some ⟨g, 0, none⟩) l.length l.length]) ∧ w'.ownsRow w.heap.size 2 1 (.slice (some ⟨g, 0, none⟩) l.length l.length) l.length (nums l)) ∧ Below w.heap.size w w' := by
  obtain ⟨W, hW, hWz, HB0, HP0, HX0, HY0⟩ := boxes3 w [.string p, .bool d, .slice a l.length c] [.string ⟨#[]⟩, .bool false, .slice none 0 0] [.string p, .bool d, .slice none 0 0] 39 42 42
  have H := hide (h.below (unhide HB0))
  clear h
  go_enter Tryd.func19, Tryd.ntmps19
  go_wp2_with fail
  rw [← hW]
  clear hW
  refine (toInt64S_ex a c l _ (unhide H) hn).mono ?_
  rintro r w5 ⟨⟨g, rfl, ho⟩, hb5⟩
  have HX5 := hide ((unhide HX0).below hb5)
  have HY5 := hide ((unhide HY0).below hb5)
  have B5 := hide (below_step (unhide HB0) hb5 (by omega))
  have ON := hide ho
  have LN : Hid (w.heap.size + 1 + 1 < g) := by have := ho.lt g rfl; show _ < _; omega
  have z5 : w.heap.size + 1 + 1 < w5.heap.size := by have := hb5.size; omega
  clear hb5 ho HX0 HY0 HB0 H
  have t0 := (unhide HY5).cell 0
  have t1 := (unhide HY5).cell 1
  have t2 := (unhide HY5).cell 2
  have f2 := (unhide HY5).frozen 2
  have x0 := (unhide HX5).cell 0
  have x1 := (unhide HX5).cell 1
  have x2 := (unhide HX5).cell 2
  have e0 := (unhide HX5).frozen 0
  have e1 := (unhide HX5).frozen 1
  have e2 := (unhide HX5).frozen 2
  simp only [List.getElem?_cons_zero, List.getElem?_cons_succ] at t0 t1 t2 x0 x1 x2
  have nxy : w.heap.size + 1 ≠ w.heap.size + 1 + 1 := by omega
  go_wp2_with fail
  clear t0 t1 t2 f2 x0 x1 x2 e0 e1 e2
  generalize hV : w5.setCell ⟨w.heap.size + 1 + 1, 2, none⟩ _ = V at *
  have OV : Out (fun q => q = w.heap.size + 1 + 1) w5 V := out_set' (Out.refl _ _) hV (.inl rfl)
  have XV := hide ((unhide HX5).out OV (by show ¬ w.heap.size + 1 = w.heap.size + 1 + 1; omega))
  generalize hU : ((V.setCell _ _).setCell _ _).setCell _ _ = U at *
  obtain ⟨XU, OU⟩ := store3' (unhide XV) hU
  have BV := OV.below (unhide B5) (Nat.le_refl _) (fun q hq e => by omega)
  have BU := hide ((unhide OU).below BV (Nat.le_refl _) (fun q hq e => by omega))
  have OW := hide ((unhide OU).own (OV.own (unhide ON) (fun q hq e => by have := unhide LN; cases hq; simp at e; omega)) (fun q hq e => by have := unhide LN; cases hq; simp at e; omega))
  clear hU hV OV OU BV
  refine bodyPost_ret (results_cell_row Tryd.results19 _ U (w.heap.size + 1) 42 _ (0, 0) _ rfl (unhide XU) Tryd.underlying42 rfl (by kernel_rfl)) rfl ⟨⟨g, rfl, own_base (unhide OW) (fun q hq => by have := unhide LN; cases hq; show w.heap.size ≤ g; omega)⟩, unhide BU⟩
def flatItm (L : List ItmA) : List Value := L.flatMap ItmA.cells
theorem cells_lenItm (x : ItmA) : x.cells.length = 3 := rfl
theorem flat_lenItm (L : List ItmA) : (flatItm L).length = L.length * 3 := by
  induction L with
  | nil => rfl
  | cons x L ih => simp only [flatItm, List.flatMap_cons, List.length_append, cells_lenItm, List.length_cons] at *; omega
theorem flat_snocItm (L : List ItmA) (x : ItmA) : flatItm (L ++ [x]) = flatItm L ++ x.cells := by simp [flatItm]
theorem flat_atItm : ∀ (L : List ItmA) (i : Nat) (h : i < L.length) (j : Nat) (v : Value), (L[i].cells)[j]? = some v → (flatItm L)[i * 3 + j]? = some v
  | x :: L, 0, _, j, v, hv => by
    have hj : j < x.cells.length := (List.getElem?_eq_some_iff.1 hv).1
    simp only [flatItm, List.flatMap_cons, Nat.zero_mul, Nat.zero_add]
    rw [List.getElem?_append_left hj]; exact hv
  | x :: L, i + 1, h, j, v, hv => by
    have hr := flat_atItm L i (by simpa using h) j v (by simpa using hv)
    simp only [flatItm, List.flatMap_cons]
    rw [List.getElem?_append_right (by rw [cells_lenItm]; omega), cells_lenItm, show (i + 1) * 3 + j - 3 = i * 3 + j by omega]
    exact hr
theorem take_partItm {cs A C : List Value} {n m : Nat} (hA : cs.take n = A) (hn : n ≤ cs.length) (hm : C.length = m) : (cs.take n ++ C ++ cs.drop (n + m)).take (n + m) = A ++ C := by
  have hl : (cs.take n ++ C).length = n + m := by rw [List.length_append, List.length_take, hm]; omega
  rw [List.take_append_of_le_length (by omega), List.take_of_length_le (by omega), hA]
/-- A row whose blocks' numbers are there. -/
theorem box_Itm {w : World} {g : Nat} {L : List ItmA} {t : TypeId} (h : Box w g (flatItm L) t) (hi : ∀ x ∈ L, IntsAt w x.a x.b.l ∧ x.b.l.length ≤ 1048576) : ItmsAt w (some ⟨g, 0, none⟩) L := by
  refine .inr ⟨g, 0, rfl, h.lt, fun i hl => ⟨fun j v hv => ?_, (hi _ (List.getElem_mem hl)).1, (hi _ (List.getElem_mem hl)).2⟩⟩
  rw [Nat.zero_add, h.cell]
  exact flat_atItm L i hl j v hv
theorem infoItm : (Tryd.prog.info? 42).map (fun i => (i.zero, i.size, i.bytes)) = some (some (.agg #[.string ⟨#[]⟩, .bool false, .slice none 0 0]), 3, 48) := by kernel_rfl
theorem box_rowNItm {w : World} {base g n : Nat} {xs : List Value} {e : TypeId} {s : Nat} (h : w.ownsRow base e s (.slice (some ⟨g, 0, none⟩) n n) n xs) : Box w g xs e ∧ base ≤ g := by
  rcases h.2 with ⟨h1, _⟩ | ⟨g', cap, cur, h1, h2, h3, h4, h5, h6, h7⟩
  · cases h1
  · cases h1
    have hc : cur = xs.toArray := by
      rw [List.take_of_length_le (by rw [Array.length_toList, h6]; exact Nat.le_refl _)] at h7
      rw [← h7]
    rw [hc] at h3
    exact ⟨h3, h2⟩

theorem ints_box {w : World} {g : Nat} {l : List Int} {t : TypeId} (h : Box w g (nums l) t) : IntsAt w (some ⟨g, 0, none⟩) l :=
  .inr ⟨g, 0, rfl, h.lt, fun i hi => by rw [Nat.zero_add, h.cell]; exact nums_at hi⟩
/-- The numbers of an item in a row of their own. -/
def ItmA.boxed (w : World) (B : Nat) (x : ItmA) : Prop := ∃ g, x.a = some ⟨g, 0, none⟩ ∧ B ≤ g ∧ Box w g (nums x.b.l) 2
theorem ItmA.boxed.ints {w : World} {B : Nat} {x : ItmA} (h : x.boxed w B) : IntsAt w x.a x.b.l := by
  obtain ⟨g, e, _, hb⟩ := h
  rw [e]; exact ints_box hb
theorem ItmA.boxed.below {w w' : World} {B : Nat} {x : ItmA} (h : x.boxed w B) (hb : Below w.heap.size w w') : x.boxed w' B := by
  obtain ⟨g, e, l, k⟩ := h
  exact ⟨g, e, l, k.below hb⟩
theorem ItmA.boxed.out {F : Nat → Prop} {w w' : World} {B : Nat} {x : ItmA} (h : x.boxed w B) (ho : Out F w w') (hF : ∀ q, B ≤ q → ¬ F q) : x.boxed w' B := by
  obtain ⟨g, e, l, k⟩ := h
  exact ⟨g, e, l, k.out ho (hF g l)⟩
theorem ItmA.boxed.mono {w : World} {B B' : Nat} {x : ItmA} (h : x.boxed w B) (hB : B' ≤ B) : x.boxed w B' := by
  obtain ⟨g, e, l, k⟩ := h
  exact ⟨g, e, by omega, k⟩

set_option maxRecDepth 20000 in
set_option maxHeartbeats 4000000 in
theorem toItemS_box (a : Option Addr) (c : Nat) (L : List ItmA) (w : World) (h : ItmsAt w a L) (hn : L.length ≤ 1048576) :
    Calls Tryd.prog 7 #[.slice a L.length c] w fun r w' => (∃ g L', r = .returned (.slice (some ⟨g, 0, none⟩) L.length L.length) ∧ Box w' g (flatItm L') 42 ∧ (∀ y ∈ L', y.boxed w' w.heap.size ∧ y.b.l.length ≤ 1048576) ∧ L'.map ItmA.b = L.map ItmA.b ∧ w.heap.size ≤ g) ∧ Below w.heap.size w w' := by
  obtain ⟨i0, hi, hz0, hz1, hz2⟩ := info_parts infoItm
  go_enter Tryd.func7, Tryd.ntmps7
  go_wp2_with (at_make; refine wpList_make_full _ rfl _ _ 25 rfl w.heap.size 42 i0 _ 3 Tryd.underlying25 hi hz0 hz1 .i64 .i64 _ _ L.length rfl rfl rfl rfl (by rw [hz2]; omega) (by unfold maxLen; omega) (Nat.le_refl _) ?_; intro w1 hown hgrow)
  have hbel : Below w.heap.size w w1 := (Below.refl _ _).grown hgrow (Nat.le_refl _) (fun k hk => by cases hk)
  obtain ⟨hbox, -⟩ := box_rowNItm hown
  have hlen := hown.1
  generalize (madeCells _ _).toList = cs0 at *
  clear hgrow hown
  go_loopw [4] (fun i wr => ∃ (k : Nat) (cs : List Value) (L' : List ItmA), k ≤ L.length ∧ i = .int .i64 k ∧ cs.length = L.length * 3 ∧ L'.length = k ∧ w.heap.size < wr.heap.size ∧ Hid (Box wr w.heap.size cs 42) ∧ Hid (Below w.heap.size w wr) ∧ Hid (cs.take (k * 3) = flatItm L') ∧ Hid (L'.map ItmA.b = (L.take k).map ItmA.b) ∧ Hid (∀ x ∈ L', x.boxed wr (w.heap.size + 1) ∧ x.b.l.length ≤ 1048576)) (fun i _ => L.length - (intOf i).toNat)
  case atStart => exact ⟨0, cs0, [], Nat.zero_le _, rfl, hlen, rfl, hbox.lt, hbox, hbel, by simp [Hid, flatItm], rfl, by simp [Hid]⟩
  case round =>
    obtain ⟨k, cs, L', hk, rfl, hcl, hl', hzr, HX, HB, HF, HM, HI⟩ := hrel
    clear hbel hbox hlen
    by_cases hlt : k < L.length
    · obtain ⟨b1, o1, rfl, hb1, hc1⟩ := h.at hlt
      have hbw := unhide HB
      have hx := hc1 k hlt
      have hxe : L.take (k + 1) = L.take k ++ [L[k]] := List.take_succ_eq_append_getElem hlt
      generalize L[k] = x at *
      have HXE := hide hxe
      have I1 := hide (hx.2.1.keep hbw.size fun _ _ hl => hbw.block _ hl)
      have hnl := hx.2.2
      have zb1 : b1 < wr.heap.size := by omega
      obtain ⟨⟨xp, xd, xl⟩, xa, xc⟩ := x
      have x0 := (hbw.cell (p := ⟨b1, o1 + k * 3, none⟩) hb1).trans (hx.1 0 _ rfl)
      have x1 := (hbw.cell (p := ⟨b1, o1 + k * 3 + 1, none⟩) hb1).trans (hx.1 1 _ rfl)
      have x2 := (hbw.cell (p := ⟨b1, o1 + k * 3 + 2, none⟩) hb1).trans (hx.1 2 _ rfl)
      clear hc1 hx h hbw hxe
      simp only at x0 x1 x2 hnl
      go_wp2_with fail
      clear x0 x1 x2
      refine (toItem_any xp xd xl xa xc _ (unhide I1) hnl).mono ?_
      rintro r w2 ⟨⟨g, rfl, ho⟩, hb2⟩
      have HX2 := hide ((unhide HX).below hb2)
      have B2 := hide (below_step (unhide HB) hb2 (by omega))
      have LG : Hid (wr.heap.size ≤ g) := (ho.lt g rfl).1
      have IN := hide (box_rowNItm ho).1
      have z2 : w.heap.size < w2.heap.size := by have := hb2.size; omega
      have HI2 : Hid (∀ x ∈ L', x.boxed w2 (w.heap.size + 1) ∧ x.b.l.length ≤ 1048576) := fun x hx => ⟨(unhide HI x hx).1.below hb2, (unhide HI x hx).2⟩
      clear ho hb2 HX HB HI I1
      go_wp2_with (first | (refine wpList_store_part rfl 42 (.tmp 21) (.tmp 20) rfl w.heap.size (k * 3) _ rfl rfl 42 cs (unhide HX2) (by kernel_rfl) (by simp; omega) (by simp [Value.oneCell']) ?_; intro wZ XZ OZ))
      have hcs : (cs.take (k * 3) ++ [Value.string xp, .bool xd, .slice (some ⟨g, 0, none⟩) xl.length xl.length] ++ cs.drop (k * 3 + 3)).length = L.length * 3 := by
        simp only [List.length_append, List.length_take, List.length_drop, List.length_cons, List.length_nil]
        omega
      have oz := (unhide OZ).size
      refine ⟨⟨k + 1, _, L' ++ [⟨⟨xp, xd, xl⟩, some ⟨g, 0, none⟩, xl.length⟩], by omega, by go_num, hcs, by simp [hl'], by omega, XZ, (unhide OZ).below (unhide B2) (Nat.le_refl _) (fun q hq e => by omega), ?_, ?_, ?_⟩, by simp [intOf]; omega⟩
      · rw [Hid, flat_snocItm, show (k + 1) * 3 = k * 3 + 3 by omega]
        exact take_partItm (unhide HF) (by omega) rfl
      · rw [Hid, unhide HXE, List.map_append, List.map_append, unhide HM]
        rfl
      · intro x hx
        rcases List.mem_append.1 hx with hx | hx
        · obtain ⟨q1, q2⟩ := unhide HI2 x hx
          exact ⟨q1.out (unhide OZ) (fun q hq e => by omega), q2⟩
        · simp only [List.mem_singleton] at hx
          subst hx
          have hlg := unhide LG
          exact ⟨⟨g, rfl, by omega, (unhide IN).out (unhide OZ) (by omega)⟩, hnl⟩
    · have hk4 : k = L.length := by omega
      subst hk4
      have hcf : cs = flatItm L' := by
        have := unhide HF
        rwa [List.take_of_length_le (by omega)] at this
      have hmm : L'.map ItmA.b = L.map ItmA.b := by
        have := unhide HM
        rwa [List.take_of_length_le (by omega)] at this
      subst hcf
      have HMM := hide hmm
      clear hmm
      go_wp2_with fail
      go_ret
      exact ⟨⟨_, L', rfl, unhide HX, fun x hx => ⟨(unhide HI x hx).1.mono (by omega), (unhide HI x hx).2⟩, unhide HMM, Nat.le_refl _⟩, unhide HB⟩
theorem toItemS_past (a : Option Addr) (c : Nat) (L : List ItmA) (w : World) (h : ItmsAt w a L) (hn : L.length ≤ 1048576) :
    Calls Tryd.prog 7 #[.slice a L.length c] w fun r w' => (∃ g L', r = .returned (.slice (some ⟨g, 0, none⟩) L.length L.length) ∧ ItmsAt w' (some ⟨g, 0, none⟩) L' ∧ L'.map ItmA.b = L.map ItmA.b ∧ w.heap.size ≤ g ∧ (∀ y ∈ L', ∀ ad, y.a = some ad → w.heap.size ≤ ad.block)) ∧ Below w.heap.size w w' :=
  (toItemS_box a c L w h hn).mono fun _ _ ⟨⟨g, L', h1, h2, h3, h4, h5⟩, hb⟩ => ⟨⟨g, L', h1, box_Itm h2 (fun x hx => ⟨(h3 x hx).1.ints, (h3 x hx).2⟩), h4, h5, fun y hy ad e => by
    obtain ⟨g', e', l', _⟩ := (h3 y hy).1
    rw [e'] at e; cases e; exact l'⟩, hb⟩
theorem toItemS_any (a : Option Addr) (c : Nat) (L : List ItmA) (w : World) (h : ItmsAt w a L) (hn : L.length ≤ 1048576) :
    Calls Tryd.prog 7 #[.slice a L.length c] w fun r w' => (∃ g L', r = .returned (.slice (some ⟨g, 0, none⟩) L.length L.length) ∧ ItmsAt w' (some ⟨g, 0, none⟩) L' ∧ L'.map ItmA.b = L.map ItmA.b) ∧ Below w.heap.size w w' :=
  (toItemS_past a c L w h hn).mono fun _ _ ⟨⟨g, L', h1, h2, h3, _, _⟩, hb⟩ => ⟨⟨g, L', h1, h2, h3⟩, hb⟩
end Go.Proofs.YtcmekhpphgkglaaDoor
