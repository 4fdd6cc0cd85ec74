/-
  What the reading of a list of records (Item) tells.
-/
import Derived.Test.YtcmekhpphgkglaaDoorOpenNode
import Derived.Test.YtcmekhpphgkglaaDoorItemMath
import Derived.Deep.Slices
namespace Go.Proofs.YtcmekhpphgkglaaDoor
open Go.RowKit Go.ChangeShapes Go.WideShapes Go.Deep
section
variable {H : Type} {enc : TypeId × Value → H} {P : Program} {w : World} {base : Nat} {spare : Nat → Bool} {held : Bool}

/-- The fields of a record, where its cells are read. -/
theorem open_Itm_cells {t : TypeId} {f0 f1 f2 : Field} {el : TypeId} {fuel : Nat} {cs : List Value} {y : DataW H × List MemPlace} (ht : P.underlying t = some (.struct #[f0, f1, f2])) (hone : oneCellFields P #[f0, f1, f2] = true) (hC : P.cellsOf t = 3)
    (i0 : P.underlying f0.type = some .string) (i1 : P.underlying f1.type = some .bool) (uL : P.underlying f2.type = some (.slice el)) (uE : P.underlying el = some (.int .i64)) (cE : P.cellsOf el = 1)
    (h : DataW.trod enc P w base spare held fuel t cs = some y) : ∃ x : ItmA, cs = x.cells ∧ IntsAt w x.a x.b.l ∧ x.b.l.length ≤ maxLen ∧ x.b.p.size ≤ maxLen := by
  obtain ⟨xs, n, _, rfl, hl, hlen, hf⟩ := DataW.trod_struct ht h
  rw [hC] at hl
  match cs, hl, xs, hlen with
  | [c0, c1, c2], _, [y0, y1, y2], _ =>
    obtain ⟨o0, k0⟩ := Go.Deep.hone_of hone 0 f0 rfl
    obtain ⟨o1, k1⟩ := Go.Deep.hone_of hone 1 f1 rfl
    obtain ⟨o2, k2⟩ := Go.Deep.hone_of hone 2 f2 rfl
    have g0 := hf 0 f0 rfl
    have g1 := hf 1 f1 rfl
    have g2 := hf 2 f2 rfl
    simp [o0, k0] at g0
    simp [o1, k1] at g1
    simp [o2, k2] at g2
    obtain ⟨p, e0, -, hnm⟩ := DataW.trod_string i0 g0
    obtain ⟨d, e1, -⟩ := DataW.trod_bool i1 g1
    obtain ⟨a, c, l, e2, hi, hl1, hl2⟩ := open_ints_at uL uE cE g2
    simp at e0 e1
    exact ⟨⟨⟨p, d, l⟩, a, c⟩, by rw [e0, e1, e2]; rfl, hi, Nat.le_trans hl1 hl2, hnm⟩

/-- A list of blocks, out of what its elements are. -/
theorem open_Itms_at {t e : TypeId} {fuel : Nat} {v : Value} {y : DataW H × List MemPlace} (ht : P.underlying t = some (.slice e)) (ce : P.cellsOf e = 3)
    (each : ∀ (n : Nat) (cs : List Value) (z : DataW H × List MemPlace), DataW.trod enc P w base spare held n e cs = some z → ∃ x : ItmA, cs = x.cells ∧ IntsAt w x.a x.b.l ∧ x.b.l.length ≤ maxLen ∧ x.b.p.size ≤ maxLen)
    (h : DataW.trod enc P w base spare held fuel t [v] = some y) : ∃ a c L, v = .slice a (List.length L) c ∧ ItmsR w a L ∧ List.length L ≤ c ∧ c ≤ maxLen := by
  rcases DataW.trod_slice ht h with ⟨hcs, _⟩ | ⟨x, len, cap, elems, rest, n, _, hcs, _, hb, hl, hm, hlen, hel, _, _⟩
  · simp at hcs
    exact ⟨none, 0, [], by simpa using hcs, .inl rfl, Nat.le_refl _, by omega⟩
  · simp at hcs
    have each2 : ∀ i, i < len → ∃ q : ItmA, (∀ j z, (q.cells)[j]? = some z → w.cell? (x.add (i * 3 + j)) = some z) ∧ IntsAt w q.a q.b.l ∧ q.b.l.length ≤ maxLen ∧ q.b.p.size ≤ maxLen := by
      intro i hi
      have h1 := hel i hi
      rw [ce, List.getElem?_eq_getElem (by omega)] at h1
      cases hc : w.cells? base (x.add (i * 3)) 3 with
      | none => rw [hc] at h1; simp at h1
      | some cs =>
        rw [hc] at h1
        simp only [Option.bind_some] at h1
        obtain ⟨q, hq, r1, r2, r3⟩ := each _ _ _ h1
        refine ⟨q, fun j z hz => ?_, r1, r2, r3⟩
        obtain ⟨_, _, hcc⟩ := World.cells?_some hc
        have hj : j < 3 := (List.getElem?_eq_some_iff.1 hz).1
        have := hcc j hj
        rw [hq, hz] at this
        rw [← this, Go.Deep.add_add]
    haveI : Inhabited ItmA := ⟨⟨⟨⟨#[]⟩, false, []⟩, none, 0⟩⟩
    obtain ⟨q, hq⟩ := choose_lt each2
    have hln : ((List.range len).map q).length = len := by simp
    refine ⟨some x, cap, (List.range len).map q, by rw [hln]; exact hcs, ?_, by rw [hln]; exact hl, hm⟩
    by_cases h0 : len = 0
    · left; subst h0; simp
    · right
      have c0 : w.cell? (x.add 0) = _ := (hq 0 (by omega)).1 0 _ rfl
      have hs := addr_none c0
      obtain ⟨b, off, spot⟩ := x
      simp only at hs
      subst hs
      refine ⟨b, off, rfl, ?_, fun i hi => ?_⟩
      · have := World.block_lt_of_cell? w _ c0
        rwa [add_plain] at this
      · have hi' : i < len := by omega
        have := hq i hi'
        simp only [List.getElem_map, List.getElem_range]
        refine ⟨fun j z hz => ?_, this.2⟩
        have hz2 := this.1 j z hz
        rw [add_plain] at hz2
        simpa [Nat.add_assoc] using hz2
end
end Go.Proofs.YtcmekhpphgkglaaDoor
