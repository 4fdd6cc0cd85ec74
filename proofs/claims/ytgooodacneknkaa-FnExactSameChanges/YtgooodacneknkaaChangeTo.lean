/-
  What the laws' own copies of records (Change) answer.
-/
import Derived.Test.YtgooodacneknkaaChangeMath
import Derived.Test.YtgooodacneknkaaToNodeWalk
import Derived.Test.YtgooodacneknkaaResWalk
import Derived.Test.YtgooodacneknkaaWideBox
import Derived.OwnWalk
namespace Go.Proofs.Ytgooodacneknkaa
open Go.RowKit
set_option linter.unusedVariables false

set_option maxRecDepth 20000 in
set_option maxHeartbeats 2000000 in
theorem toChange_any (k : Int) (u : Int) (i : Int) (nu : Int) (nd : Bool) (np : Int) (nn : ByteArray) (ns : Int) (nl : List Int) (a : Option Addr) (c : Nat) (w : World) (h : IntsAt w a nl) (hn : nl.length ≤ 1048576) :
    Calls Try.prog 39 #[.agg #[.int .i64 k, .int .i64 u, .int .i64 i, .int .i64 nu, .bool nd, .int .i64 np, .string nn, .int .i64 ns, .slice a nl.length c]] w fun r w' => (∃ g, r = .returned (.agg #[.int .i64 k, .int .i64 u, .int .i64 i, .int .i64 nu, .bool nd, .int .i64 np, .string nn, .int .i64 ns, .slice (some ⟨g, 0, none⟩) nl.length nl.length]) ∧ w'.ownsRow w.heap.size 2 1 (.slice (some ⟨g, 0, none⟩) nl.length nl.length) nl.length (nums nl)) ∧ Below w.heap.size w w' := by
  obtain ⟨W, hW, hWz, HB0, HP0, HX0, HY0⟩ := boxes3 w [.int .i64 k, .int .i64 u, .int .i64 i, .int .i64 nu, .bool nd, .int .i64 np, .string nn, .int .i64 ns, .slice a nl.length c] [.int .i64 0, .int .i64 0, .int .i64 0, .int .i64 0, .bool false, .int .i64 0, .string ⟨#[]⟩, .int .i64 0, .slice none 0 0] [.int .i64 k, .int .i64 u, .int .i64 i, .int .i64 0, .bool false, .int .i64 0, .string ⟨#[]⟩, .int .i64 0, .slice none 0 0] 64 67 67
  have H0 := hide h
  clear h
  go_enter Try.func39, Try.ntmps39
  go_wp2_with fail
  rw [← hW]
  clear hW
  have np1 : w.heap.size ≠ w.heap.size + 1 + 1 := by omega
  refine (toNode_any nu nd np nn ns _).mono ?_
  rintro r w3 ⟨rfl, hb3⟩
  have HP3 := hide ((unhide HP0).below hb3)
  have HX3 := hide ((unhide HX0).below hb3)
  have HY3 := hide ((unhide HY0).below hb3)
  have B3 := hide (below_step (unhide HB0) hb3 (by omega))
  have z3 : w.heap.size + 1 + 1 < w3.heap.size := by have := hb3.size; omega
  clear hb3 HP0 HX0 HY0 HB0
  go_wp2_with (first | (refine wpList_store_part rfl 65 (.tmp 16) (.tmp 15) rfl (w.heap.size + 1 + 1) 3 _ rfl rfl 67 _ (unhide HY3) (by kernel_rfl) (by simp) (by simp [Value.oneCell']) ?_; intro w4 X4 O4; have p8 := ((unhide HP3).out (unhide O4) np1).cell 8; simp only [List.getElem?_cons_zero, List.getElem?_cons_succ] at p8))
  have HX4 := hide ((unhide HX3).out (unhide O4) (by show ¬ w.heap.size + 1 = w.heap.size + 1 + 1; omega))
  have HY4 : Hid (Box w4 (w.heap.size + 1 + 1) [.int .i64 k, .int .i64 u, .int .i64 i, .int .i64 nu, .bool nd, .int .i64 np, .string nn, .int .i64 ns, .slice none 0 0] 67) := X4
  have B4 := hide ((unhide O4).below (unhide B3) (Nat.le_refl _) (fun q hq e => by omega))
  have H4 := hide ((unhide H0).below (unhide B4))
  have z4 : w.heap.size + 1 + 1 < w4.heap.size := by have := (unhide O4).size; omega
  clear X4 O4 HP3 HX3 HY3 B3 p8
  refine (toInt64S_ex a c nl _ (unhide H4) hn).mono ?_
  rintro r w5 ⟨⟨g, rfl, ho⟩, hb5⟩
  have HX5 := hide ((unhide HX4).below hb5)
  have HY5 := hide ((unhide HY4).below hb5)
  have B5 := hide (below_step (unhide B4) hb5 (by omega))
  have ON := hide ho
  have LN : Hid (w.heap.size + 1 + 1 < g) := by have := ho.lt g rfl; show _ < _; omega
  have z5 : w.heap.size + 1 + 1 < w5.heap.size := by have := hb5.size; omega
  clear hb5 ho HX4 HY4 B4 H4
  have t8 := (unhide HY5).cell 8
  have f8 := (unhide HY5).frozen 8
  simp only [List.getElem?_cons_zero, List.getElem?_cons_succ] at t8
  have HYV : Hid (Box (w5.setCell ⟨w.heap.size + 1 + 1, 8, none⟩ (.slice (some ⟨g, 0, none⟩) nl.length nl.length)) (w.heap.size + 1 + 1) [.int .i64 k, .int .i64 u, .int .i64 i, .int .i64 nu, .bool nd, .int .i64 np, .string nn, .int .i64 ns, .slice (some ⟨g, 0, none⟩) nl.length nl.length] 67) := (unhide HY5).set 8 _
  have HXV := hide ((unhide HX5).set_other (p := ⟨w.heap.size + 1 + 1, 8, none⟩) (by show w.heap.size + 1 ≠ w.heap.size + 1 + 1; omega) (.slice (some ⟨g, 0, none⟩) nl.length nl.length))
  have BV := hide ((unhide B5).setCell (p := ⟨w.heap.size + 1 + 1, 8, none⟩) (by show w.heap.size ≤ w.heap.size + 1 + 1; omega) (.slice (some ⟨g, 0, none⟩) nl.length nl.length))
  have OV : Hid (Out (fun q => q = w.heap.size + 1 + 1) w5 (w5.setCell ⟨w.heap.size + 1 + 1, 8, none⟩ (.slice (some ⟨g, 0, none⟩) nl.length nl.length))) := (Out.refl (fun q => q = w.heap.size + 1 + 1) w5).setCell (p := ⟨w.heap.size + 1 + 1, 8, none⟩) (.inl rfl) _
  have ONV := hide ((unhide OV).own (unhide ON) (fun q hq e => by have := unhide LN; cases hq; simp at e; omega))
  go_wp2_with (first
    | (refine wpList_load_part rfl 67 (.tmp 3) rfl (w.heap.size + 1 + 1) 0 rfl 67 _ [.int .i64 k, .int .i64 u, .int .i64 i, .int .i64 nu, .bool nd, .int .i64 np, .string nn, .int .i64 ns, .slice (some ⟨g, 0, none⟩) nl.length nl.length] (unhide HYV) rfl _ Try.underlying67 rfl (by kernel_rfl) ?_)
    | (refine wpList_store_part rfl 67 (.tmp 2) (.tmp 21) rfl (w.heap.size + 1) 0 _ rfl rfl 67 _ (unhide HXV) (by kernel_rfl) (by simp) (by simp [Value.oneCell']) ?_; intro wZ XZ OZ))
  have XR : Hid (Box wZ (w.heap.size + 1) [.int .i64 k, .int .i64 u, .int .i64 i, .int .i64 nu, .bool nd, .int .i64 np, .string nn, .int .i64 ns, .slice (some ⟨g, 0, none⟩) nl.length nl.length] 67) := XZ
  have BR : Hid (Below w.heap.size w wZ) := (unhide OZ).below (unhide BV) (Nat.le_refl _) (fun q hq e => by omega)
  have ONR := hide ((unhide OZ).own (unhide ONV) (fun q hq e => by have := unhide LN; cases hq; simp at e; omega))
  clear XZ OZ HXV HYV BV ONV OV ON t8 f8
  refine bodyPost_ret (results_cell_row Try.results39 _ wZ (w.heap.size + 1) 67 _ (0, 0) _ rfl (unhide XR) Try.underlying67 rfl (by kernel_rfl)) rfl ⟨⟨g, rfl, own_base (unhide ONR) (fun q hq => by have := unhide LN; cases hq; show w.heap.size ≤ g; omega)⟩, unhide BR⟩
def flatChn (L : List ChnA) : List Value := L.flatMap ChnA.cells
theorem cells_lenChn (x : ChnA) : x.cells.length = 9 := rfl
theorem flat_lenChn (L : List ChnA) : (flatChn L).length = L.length * 9 := by
  induction L with
  | nil => rfl
  | cons x L ih => simp only [flatChn, List.flatMap_cons, List.length_append, cells_lenChn, List.length_cons] at *; omega
theorem flat_snocChn (L : List ChnA) (x : ChnA) : flatChn (L ++ [x]) = flatChn L ++ x.cells := by simp [flatChn]
theorem flat_atChn : ∀ (L : List ChnA) (i : Nat) (h : i < L.length) (j : Nat) (v : Value), (L[i].cells)[j]? = some v → (flatChn L)[i * 9 + j]? = some v
  | x :: L, 0, _, j, v, hv => by
    have hj : j < x.cells.length := (List.getElem?_eq_some_iff.1 hv).1
    simp only [flatChn, List.flatMap_cons, Nat.zero_mul, Nat.zero_add]
    rw [List.getElem?_append_left hj]; exact hv
  | x :: L, i + 1, h, j, v, hv => by
    have hr := flat_atChn L i (by simpa using h) j v (by simpa using hv)
    simp only [flatChn, List.flatMap_cons]
    rw [List.getElem?_append_right (by rw [cells_lenChn]; omega), cells_lenChn, show (i + 1) * 9 + j - 9 = i * 9 + j by omega]
    exact hr
theorem take_partChn {cs A C : List Value} {n m : Nat} (hA : cs.take n = A) (hn : n ≤ cs.length) (hm : C.length = m) : (cs.take n ++ C ++ cs.drop (n + m)).take (n + m) = A ++ C := by
  have hl : (cs.take n ++ C).length = n + m := by rw [List.length_append, List.length_take, hm]; omega
  rw [List.take_append_of_le_length (by omega), List.take_of_length_le (by omega), hA]
/-- A row whose blocks' numbers are there. -/
theorem box_Chn {w : World} {g : Nat} {L : List ChnA} {t : TypeId} (h : Box w g (flatChn L) t) (hi : ∀ x ∈ L, IntsAt w x.a x.b.nl ∧ x.b.nl.length ≤ 1048576) : ChnsAt w (some ⟨g, 0, none⟩) L := by
  refine .inr ⟨g, 0, rfl, h.lt, fun i hl => ⟨fun j v hv => ?_, (hi _ (List.getElem_mem hl)).1, (hi _ (List.getElem_mem hl)).2⟩⟩
  rw [Nat.zero_add, h.cell]
  exact flat_atChn L i hl j v hv
theorem infoChn : (Try.prog.info? 67).map (fun i => (i.zero, i.size, i.bytes)) = some (some (.agg #[.int .i64 0, .int .i64 0, .int .i64 0, .int .i64 0, .bool false, .int .i64 0, .string ⟨#[]⟩, .int .i64 0, .slice none 0 0]), 9, 96) := by kernel_rfl
theorem box_rowNChn {w : World} {base g n : Nat} {xs : List Value} {e : TypeId} {s : Nat} (h : w.ownsRow base e s (.slice (some ⟨g, 0, none⟩) n n) n xs) : Box w g xs e ∧ base ≤ g := by
  rcases h.2 with ⟨h1, _⟩ | ⟨g', cap, cur, h1, h2, h3, h4, h5, h6, h7⟩
  · cases h1
  · cases h1
    have hc : cur = xs.toArray := by
      rw [List.take_of_length_le (by rw [Array.length_toList, h6]; exact Nat.le_refl _)] at h7
      rw [← h7]
    rw [hc] at h3
    exact ⟨h3, h2⟩

set_option maxRecDepth 20000 in
set_option maxHeartbeats 4000000 in
theorem toChangeS_any (a : Option Addr) (c : Nat) (L : List ChnA) (w : World) (h : ChnsAt w a L) (hn : L.length ≤ 1048576) :
    Calls Try.prog 21 #[.slice a L.length c] w fun r w' => (∃ g L', r = .returned (.slice (some ⟨g, 0, none⟩) L.length L.length) ∧ ChnsAt w' (some ⟨g, 0, none⟩) L' ∧ L'.map ChnA.b = L.map ChnA.b) ∧ Below w.heap.size w w' := by
  obtain ⟨i0, hi, hz0, hz1, hz2⟩ := info_parts infoChn
  go_enter Try.func21, Try.ntmps21
  go_wp2_with (at_make; refine wpList_make_full _ rfl _ _ 41 rfl w.heap.size 67 i0 _ 9 Try.underlying41 hi hz0 hz1 .i64 .i64 _ _ L.length rfl rfl rfl rfl (by rw [hz2]; omega) (by unfold maxLen; omega) (Nat.le_refl _) ?_; intro w1 hown hgrow)
  have hbel : Below w.heap.size w w1 := (Below.refl _ _).grown hgrow (Nat.le_refl _) (fun k hk => by cases hk)
  obtain ⟨hbox, -⟩ := box_rowNChn hown
  have hlen := hown.1
  generalize (madeCells _ _).toList = cs0 at *
  clear hgrow hown
  go_loopw [4] (fun i wr => ∃ (k : Nat) (cs : List Value) (L' : List ChnA), k ≤ L.length ∧ i = .int .i64 k ∧ cs.length = L.length * 9 ∧ L'.length = k ∧ w.heap.size < wr.heap.size ∧ Hid (Box wr w.heap.size cs 67) ∧ Hid (Below w.heap.size w wr) ∧ Hid (cs.take (k * 9) = flatChn L') ∧ Hid (L'.map ChnA.b = (L.take k).map ChnA.b) ∧ Hid (∀ x ∈ L', IntsAt wr x.a x.b.nl ∧ x.b.nl.length ≤ 1048576 ∧ ∀ ad, x.a = some ad → w.heap.size < ad.block)) (fun i _ => L.length - (intOf i).toNat)
  case atStart => exact ⟨0, cs0, [], Nat.zero_le _, rfl, hlen, rfl, hbox.lt, hbox, hbel, by simp [Hid, flatChn], rfl, by simp [Hid]⟩
  case round =>
    obtain ⟨k, cs, L', hk, rfl, hcl, hl', hzr, HX, HB, HF, HM, HI⟩ := hrel
    clear hbel hbox hlen
    by_cases hlt : k < L.length
    · obtain ⟨b1, o1, rfl, hb1, hc1⟩ := h.at hlt
      have hbw := unhide HB
      have hx := hc1 k hlt
      have hxe : L.take (k + 1) = L.take k ++ [L[k]] := List.take_succ_eq_append_getElem hlt
      generalize L[k] = x at *
      have HXE := hide hxe
      have I1 := hide (hx.2.1.keep hbw.size fun _ _ hl => hbw.block _ hl)
      have hnl := hx.2.2
      have zb1 : b1 < wr.heap.size := by omega
      obtain ⟨⟨xk, xu, xi, xnu, xnd, xnp, xnn, xns, xnl⟩, xa, xc⟩ := x
      have x0 := (hbw.cell (p := ⟨b1, o1 + k * 9, none⟩) hb1).trans (hx.1 0 _ rfl)
      have x1 := (hbw.cell (p := ⟨b1, o1 + k * 9 + 1, none⟩) hb1).trans (hx.1 1 _ rfl)
      have x2 := (hbw.cell (p := ⟨b1, o1 + k * 9 + 2, none⟩) hb1).trans (hx.1 2 _ rfl)
      have x3 := (hbw.cell (p := ⟨b1, o1 + k * 9 + 3, none⟩) hb1).trans (hx.1 3 _ rfl)
      have x4 := (hbw.cell (p := ⟨b1, o1 + k * 9 + 4, none⟩) hb1).trans (hx.1 4 _ rfl)
      have x5 := (hbw.cell (p := ⟨b1, o1 + k * 9 + 5, none⟩) hb1).trans (hx.1 5 _ rfl)
      have x6 := (hbw.cell (p := ⟨b1, o1 + k * 9 + 6, none⟩) hb1).trans (hx.1 6 _ rfl)
      have x7 := (hbw.cell (p := ⟨b1, o1 + k * 9 + 7, none⟩) hb1).trans (hx.1 7 _ rfl)
      have x8 := (hbw.cell (p := ⟨b1, o1 + k * 9 + 8, none⟩) hb1).trans (hx.1 8 _ rfl)
      clear hc1 hx h hbw hxe
      simp only at x0 x1 x2 x3 x4 x5 x6 x7 x8 hnl
      go_wp2_with fail
      clear x0 x1 x2 x3 x4 x5 x6 x7 x8
      refine (toChange_any xk xu xi xnu xnd xnp xnn xns xnl xa xc _ (unhide I1) hnl).mono ?_
      rintro r w2 ⟨⟨g, rfl, ho⟩, hb2⟩
      have HX2 := hide ((unhide HX).below hb2)
      have B2 := hide (below_step (unhide HB) hb2 (by omega))
      have LG : Hid (wr.heap.size ≤ g) := (ho.lt g rfl).1
      have IN := hide (intsAt_own1 (l := xnl) ho)
      have z2 : w.heap.size < w2.heap.size := by have := hb2.size; omega
      have HI2 : Hid (∀ x ∈ L', IntsAt w2 x.a x.b.nl ∧ x.b.nl.length ≤ 1048576 ∧ ∀ ad, x.a = some ad → w.heap.size < ad.block) := fun x hx => ⟨(unhide HI x hx).1.below hb2, (unhide HI x hx).2⟩
      clear ho hb2 HX HB HI I1
      go_wp2_with (first | (refine wpList_store_part rfl 67 (.tmp 21) (.tmp 20) rfl w.heap.size (k * 9) _ rfl rfl 67 cs (unhide HX2) (by kernel_rfl) (by simp; omega) (by simp [Value.oneCell']) ?_; intro wZ XZ OZ))
      have hcs : (cs.take (k * 9) ++ [Value.int .i64 xk, .int .i64 xu, .int .i64 xi, .int .i64 xnu, .bool xnd, .int .i64 xnp, .string xnn, .int .i64 xns, .slice (some ⟨g, 0, none⟩) xnl.length xnl.length] ++ cs.drop (k * 9 + 9)).length = L.length * 9 := by
        simp only [List.length_append, List.length_take, List.length_drop, List.length_cons, List.length_nil]
        omega
      have oz := (unhide OZ).size
      refine ⟨⟨k + 1, _, L' ++ [⟨⟨xk, xu, xi, xnu, xnd, xnp, xnn, xns, xnl⟩, some ⟨g, 0, none⟩, xnl.length⟩], by omega, by go_num, hcs, by simp [hl'], by omega, XZ, (unhide OZ).below (unhide B2) (Nat.le_refl _) (fun q hq e => by omega), ?_, ?_, ?_⟩, by simp [intOf]; omega⟩
      · rw [Hid, flat_snocChn, show (k + 1) * 9 = k * 9 + 9 by omega]
        exact take_partChn (unhide HF) (by omega) rfl
      · rw [Hid, unhide HXE, List.map_append, List.map_append, unhide HM]
        rfl
      · intro x hx
        rcases List.mem_append.1 hx with hx | hx
        · obtain ⟨q1, q2, q3⟩ := unhide HI2 x hx
          exact ⟨(unhide OZ).ints q1 (fun ad had e => by have := q3 ad had; omega), q2, q3⟩
        · simp only [List.mem_singleton] at hx
          subst hx
          have hlg := unhide LG
          exact ⟨(unhide OZ).ints (unhide IN) (fun ad had e => by cases had; simp at e; omega), hnl, fun ad had => by cases had; show w.heap.size < g; omega⟩
    · have hk4 : k = L.length := by omega
      subst hk4
      have hcf : cs = flatChn L' := by
        have := unhide HF
        rwa [List.take_of_length_le (by omega)] at this
      have hmm : L'.map ChnA.b = L.map ChnA.b := by
        have := unhide HM
        rwa [List.take_of_length_le (by omega)] at this
      subst hcf
      have HMM := hide hmm
      clear hmm
      go_wp2_with fail
      go_ret
      exact ⟨⟨_, L', rfl, box_Chn (unhide HX) (fun x hx => ⟨(unhide HI x hx).1, (unhide HI x hx).2.1⟩), unhide HMM⟩, unhide HB⟩
end Go.Proofs.Ytgooodacneknkaa
