/-
  What the laws' own copies of lists of blocks answer.
-/
import Derived.Test.YtmkahaddnbhnaaaToBlkWalk
import Derived.OwnWalk
namespace Go.Proofs.Ytmkahaddnbhnaaa
open Go.RowKit
set_option linter.unusedVariables false

def flat (L : List BlkA) : List Value := L.flatMap BlkA.cells
theorem cells_len (x : BlkA) : x.cells.length = 10 := rfl
theorem flat_len (L : List BlkA) : (flat L).length = L.length * 10 := by
  induction L with
  | nil => rfl
  | cons x L ih => simp only [flat, List.flatMap_cons, List.length_append, cells_len, List.length_cons] at *; omega
theorem flat_snoc (L : List BlkA) (x : BlkA) : flat (L ++ [x]) = flat L ++ x.cells := by simp [flat]
theorem flat_at : ∀ (L : List BlkA) (i : Nat) (h : i < L.length) (j : Nat) (v : Value), (L[i].cells)[j]? = some v → (flat L)[i * 10 + j]? = some v
  | x :: L, 0, _, j, v, hv => by
    have hj : j < x.cells.length := (List.getElem?_eq_some_iff.1 hv).1
    simp only [flat, List.flatMap_cons, Nat.zero_mul, Nat.zero_add]
    rw [List.getElem?_append_left hj]; exact hv
  | x :: L, i + 1, h, j, v, hv => by
    have hr := flat_at L i (by simpa using h) j v (by simpa using hv)
    simp only [flat, List.flatMap_cons]
    rw [List.getElem?_append_right (by rw [cells_len]; omega), cells_len, show (i + 1) * 10 + j - 10 = i * 10 + j by omega]
    exact hr
theorem take_part {cs A C : List Value} {n m : Nat} (hA : cs.take n = A) (hn : n ≤ cs.length) (hm : C.length = m) : (cs.take n ++ C ++ cs.drop (n + m)).take (n + m) = A ++ C := by
  have hl : (cs.take n ++ C).length = n + m := by rw [List.length_append, List.length_take, hm]; omega
  rw [List.take_append_of_le_length (by omega), List.take_of_length_le (by omega), hA]
/-- A row whose blocks' numbers are there. -/
theorem blks_box {w : World} {g : Nat} {L : List BlkA} {t : TypeId} (h : Box w g (flat L) t) (hi : ∀ x ∈ L, IntsAt w x.a x.b.nl ∧ x.b.nl.length ≤ 1048576) : BlksAt w (some ⟨g, 0, none⟩) L := by
  refine .inr ⟨g, 0, rfl, h.lt, fun i hl => ⟨fun j v hv => ?_, (hi _ (List.getElem_mem hl)).1, (hi _ (List.getElem_mem hl)).2⟩⟩
  rw [Nat.zero_add, h.cell]
  exact flat_at L i hl j v hv
theorem infoBlk : (Try.prog.info? 43).map (fun i => (i.zero, i.size, i.bytes)) = some (some (.agg #[.int .i64 0, .int .i64 0, .int .i64 0, .int .i64 0, .int .i64 0, .bool false, .int .i64 0, .string ⟨#[]⟩, .int .i64 0, .slice none 0 0]), 10, 104) := by kernel_rfl
theorem box_rowN {w : World} {base g n : Nat} {xs : List Value} {e : TypeId} {s : Nat} (h : w.ownsRow base e s (.slice (some ⟨g, 0, none⟩) n n) n xs) : Box w g xs e ∧ base ≤ g := by
  rcases h.2 with ⟨h1, _⟩ | ⟨g', cap, cur, h1, h2, h3, h4, h5, h6, h7⟩
  · cases h1
  · cases h1
    have hc : cur = xs.toArray := by
      rw [List.take_of_length_le (by rw [Array.length_toList, h6]; exact Nat.le_refl _)] at h7
      rw [← h7]
    rw [hc] at h3
    exact ⟨h3, h2⟩

set_option maxRecDepth 20000 in
set_option maxHeartbeats 4000000 in
theorem toBlockS_any (a : Option Addr) (c : Nat) (L : List BlkA) (w : World) (h : BlksAt w a L) (hn : L.length ≤ 1048576) :
    Calls Try.prog 45 #[.slice a L.length c] w fun r w' => (∃ g L', r = .returned (.slice (some ⟨g, 0, none⟩) L.length L.length) ∧ BlksAt w' (some ⟨g, 0, none⟩) L' ∧ L'.map BlkA.b = L.map BlkA.b) ∧ Below w.heap.size w w' := by
  obtain ⟨i0, hi, hz0, hz1, hz2⟩ := info_parts infoBlk
  go_enter Try.func45, Try.ntmps45
  go_wp2_with (at_make; refine wpList_make_full _ rfl _ _ 49 rfl w.heap.size 43 i0 _ 10 Try.underlying49 hi hz0 hz1 .i64 .i64 _ _ L.length rfl rfl rfl rfl (by rw [hz2]; omega) (by unfold maxLen; omega) (Nat.le_refl _) ?_; intro w1 hown hgrow)
  have hbel : Below w.heap.size w w1 := (Below.refl _ _).grown hgrow (Nat.le_refl _) (fun k hk => by cases hk)
  obtain ⟨hbox, -⟩ := box_rowN hown
  have hlen := hown.1
  generalize (madeCells _ _).toList = cs0 at *
  clear hgrow hown
  go_loopw [4] (fun i wr => ∃ (k : Nat) (cs : List Value) (L' : List BlkA), k ≤ L.length ∧ i = .int .i64 k ∧ cs.length = L.length * 10 ∧ L'.length = k ∧ w.heap.size < wr.heap.size ∧ Hid (Box wr w.heap.size cs 43) ∧ Hid (Below w.heap.size w wr) ∧ Hid (cs.take (k * 10) = flat L') ∧ Hid (L'.map BlkA.b = (L.take k).map BlkA.b) ∧ Hid (∀ x ∈ L', IntsAt wr x.a x.b.nl ∧ x.b.nl.length ≤ 1048576 ∧ ∀ ad, x.a = some ad → w.heap.size < ad.block)) (fun i _ => L.length - (intOf i).toNat)
  case atStart => exact ⟨0, cs0, [], Nat.zero_le _, rfl, hlen, rfl, hbox.lt, hbox, hbel, by simp [Hid, flat], rfl, by simp [Hid]⟩
  case round =>
    obtain ⟨k, cs, L', hk, rfl, hcl, hl', hzr, HX, HB, HF, HM, HI⟩ := hrel
    clear hbel hbox hlen
    by_cases hlt : k < L.length
    · obtain ⟨b1, o1, rfl, hb1, hc1⟩ := h.at hlt
      have hbw := unhide HB
      have hx := hc1 k hlt
      have hxe : L.take (k + 1) = L.take k ++ [L[k]] := List.take_succ_eq_append_getElem hlt
      generalize L[k] = x at *
      have HXE := hide hxe
      have I1 := hide (hx.2.1.keep hbw.size fun _ _ hl => hbw.block _ hl)
      have hnl := hx.2.2
      have zb1 : b1 < wr.heap.size := by omega
      obtain ⟨⟨xk, xu, xi, xe, xnu, xnd, xnp, xnn, xns, xnl⟩, xa, xc⟩ := x
      have x0 := (hbw.cell (p := ⟨b1, o1 + k * 10, none⟩) hb1).trans (hx.1 0 _ rfl)
      have x1 := (hbw.cell (p := ⟨b1, o1 + k * 10 + 1, none⟩) hb1).trans (hx.1 1 _ rfl)
      have x2 := (hbw.cell (p := ⟨b1, o1 + k * 10 + 2, none⟩) hb1).trans (hx.1 2 _ rfl)
      have x3 := (hbw.cell (p := ⟨b1, o1 + k * 10 + 3, none⟩) hb1).trans (hx.1 3 _ rfl)
      have x4 := (hbw.cell (p := ⟨b1, o1 + k * 10 + 4, none⟩) hb1).trans (hx.1 4 _ rfl)
      have x5 := (hbw.cell (p := ⟨b1, o1 + k * 10 + 5, none⟩) hb1).trans (hx.1 5 _ rfl)
      have x6 := (hbw.cell (p := ⟨b1, o1 + k * 10 + 6, none⟩) hb1).trans (hx.1 6 _ rfl)
      have x7 := (hbw.cell (p := ⟨b1, o1 + k * 10 + 7, none⟩) hb1).trans (hx.1 7 _ rfl)
      have x8 := (hbw.cell (p := ⟨b1, o1 + k * 10 + 8, none⟩) hb1).trans (hx.1 8 _ rfl)
      have x9 := (hbw.cell (p := ⟨b1, o1 + k * 10 + 9, none⟩) hb1).trans (hx.1 9 _ rfl)
      clear hc1 hx h hbw hxe
      simp only at x0 x1 x2 x3 x4 x5 x6 x7 x8 x9 hnl
      go_wp2_with fail
      clear x0 x1 x2 x3 x4 x5 x6 x7 x8 x9
      refine (toBlock_any xk xu xi xe xnu xnd xnp xnn xns xnl xa xc _ (unhide I1) hnl).mono ?_
      rintro r w2 ⟨⟨g, rfl, ho⟩, hb2⟩
      have HX2 := hide ((unhide HX).below hb2)
      have B2 := hide (below_step (unhide HB) hb2 (by omega))
      have LG : Hid (wr.heap.size ≤ g) := (ho.lt g rfl).1
      have IN := hide (intsAt_own1 (l := xnl) ho)
      have z2 : w.heap.size < w2.heap.size := by have := hb2.size; omega
      have HI2 : Hid (∀ x ∈ L', IntsAt w2 x.a x.b.nl ∧ x.b.nl.length ≤ 1048576 ∧ ∀ ad, x.a = some ad → w.heap.size < ad.block) := fun x hx => ⟨(unhide HI x hx).1.below hb2, (unhide HI x hx).2⟩
      clear ho hb2 HX HB HI I1
      go_wp2_with (first | (refine wpList_store_part rfl 43 (.tmp 21) (.tmp 20) rfl w.heap.size (k * 10) _ rfl rfl 43 cs (unhide HX2) (by kernel_rfl) (by simp; omega) (by simp [Value.oneCell']) ?_; intro wZ XZ OZ))
      have hcs : (cs.take (k * 10) ++ [Value.int .i64 xk, .int .i64 xu, .int .i64 xi, .int .i64 xe, .int .i64 xnu, .bool xnd, .int .i64 xnp, .string xnn, .int .i64 xns, .slice (some ⟨g, 0, none⟩) xnl.length xnl.length] ++ cs.drop (k * 10 + 10)).length = L.length * 10 := by
        simp only [List.length_append, List.length_take, List.length_drop, List.length_cons, List.length_nil]
        omega
      have oz := (unhide OZ).size
      refine ⟨⟨k + 1, _, L' ++ [⟨⟨xk, xu, xi, xe, xnu, xnd, xnp, xnn, xns, xnl⟩, some ⟨g, 0, none⟩, xnl.length⟩], by omega, by go_num, hcs, by simp [hl'], by omega, XZ, (unhide OZ).below (unhide B2) (Nat.le_refl _) (fun q hq e => by omega), ?_, ?_, ?_⟩, by simp [intOf]; omega⟩
      · rw [Hid, flat_snoc, show (k + 1) * 10 = k * 10 + 10 by omega]
        exact take_part (unhide HF) (by omega) rfl
      · rw [Hid, unhide HXE, List.map_append, List.map_append, unhide HM]
        rfl
      · intro x hx
        rcases List.mem_append.1 hx with hx | hx
        · obtain ⟨q1, q2, q3⟩ := unhide HI2 x hx
          exact ⟨(unhide OZ).ints q1 (fun ad had e => by have := q3 ad had; omega), q2, q3⟩
        · simp only [List.mem_singleton] at hx
          subst hx
          have hlg := unhide LG
          exact ⟨(unhide OZ).ints (unhide IN) (fun ad had e => by cases had; simp at e; omega), hnl, fun ad had => by cases had; show w.heap.size < g; omega⟩
    · have hk4 : k = L.length := by omega
      subst hk4
      have hcf : cs = flat L' := by
        have := unhide HF
        rwa [List.take_of_length_le (by omega)] at this
      have hmm : L'.map BlkA.b = L.map BlkA.b := by
        have := unhide HM
        rwa [List.take_of_length_le (by omega)] at this
      subst hcf
      have HMM := hide hmm
      clear hmm
      go_wp2_with fail
      go_ret
      exact ⟨⟨_, L', rfl, blks_box (unhide HX) (fun x hx => ⟨(unhide HI x hx).1, (unhide HI x hx).2.1⟩), unhide HMM⟩, unhide HB⟩
end Go.Proofs.Ytmkahaddnbhnaaa
