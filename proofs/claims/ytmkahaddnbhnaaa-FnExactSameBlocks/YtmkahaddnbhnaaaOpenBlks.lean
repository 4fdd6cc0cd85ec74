/-
  What the reading of a list of blocks tells.
-/
import Derived.Test.YtmkahaddnbhnaaaOpenNode
import Derived.Test.YtmkahaddnbhnaaaSzBlkWalk
import Derived.Deep.Slices
namespace Go.Proofs.Ytmkahaddnbhnaaa
open Go.RowKit Go.ChangeShapes Go.WideShapes Go.Deep
section
variable {H : Type} {enc : TypeId × Value → H} {P : Program} {w : World} {base : Nat} {spare : Nat → Bool} {held : Bool}

theorem open_head_cells {t : TypeId} {f0 f1 f2 f3 : Field} {fuel : Nat} {cs : List Value} {y : DataW H × List MemPlace} (ht : P.underlying t = some (.struct #[f0, f1, f2, f3])) (hone : oneCellFields P #[f0, f1, f2, f3] = true) (hC : P.cellsOf t = 4)
    (i0 : P.underlying f0.type = some (.int .i64)) (i1 : P.underlying f1.type = some (.int .i64)) (i2 : P.underlying f2.type = some (.int .i64)) (i3 : P.underlying f3.type = some (.int .i64))
    (h : DataW.trod enc P w base spare held fuel t cs = some y) : ∃ k u i e, cs = [.int .i64 k, .int .i64 u, .int .i64 i, .int .i64 e] := by
  obtain ⟨xs, n, _, rfl, hl, hlen, hf⟩ := DataW.trod_struct ht h
  rw [hC] at hl
  match cs, hl, xs, hlen with
  | [c0, c1, c2, c3], _, [y0, y1, y2, y3], _ =>
    obtain ⟨o0, k0⟩ := Go.Deep.hone_of hone 0 f0 rfl
    obtain ⟨o1, k1⟩ := Go.Deep.hone_of hone 1 f1 rfl
    obtain ⟨o2, k2⟩ := Go.Deep.hone_of hone 2 f2 rfl
    obtain ⟨o3, k3⟩ := Go.Deep.hone_of hone 3 f3 rfl
    have g0 := hf 0 f0 rfl
    have g1 := hf 1 f1 rfl
    have g2 := hf 2 f2 rfl
    have g3 := hf 3 f3 rfl
    simp [o0, k0] at g0
    simp [o1, k1] at g1
    simp [o2, k2] at g2
    simp [o3, k3] at g3
    obtain ⟨k, e0, -, -⟩ := DataW.trod_int i0 g0
    obtain ⟨u, e1, -, -⟩ := DataW.trod_int i1 g1
    obtain ⟨i, e2, -, -⟩ := DataW.trod_int i2 g2
    obtain ⟨e, e3, -, -⟩ := DataW.trod_int i3 g3
    simp at e0 e1 e2 e3
    exact ⟨k, u, i, e, by rw [e0, e1, e2, e3]⟩

/-- The fields of a block, where its cells are read. -/
theorem open_blk_cells {t : TypeId} {fH fN fL : Field} {h0 h1 h2 h3 n0 n1 n2 n3 n4 : Field} {el : TypeId} {fuel : Nat} {cs : List Value} {y : DataW H × List MemPlace} (ht : P.underlying t = some (.struct #[fH, fN, fL])) (hC : P.cellsOf t = 10)
    (oH : fH.offset = 0) (oN : fN.offset = 4) (oL : fL.offset = 9) (cH : P.cellsOf fH.type = 4) (cN : P.cellsOf fN.type = 5) (cL : P.cellsOf fL.type = 1)
    (uH : P.underlying fH.type = some (.struct #[h0, h1, h2, h3])) (hH : oneCellFields P #[h0, h1, h2, h3] = true) (a0 : P.underlying h0.type = some (.int .i64)) (a1 : P.underlying h1.type = some (.int .i64)) (a2 : P.underlying h2.type = some (.int .i64)) (a3 : P.underlying h3.type = some (.int .i64))
    (uN : P.underlying fN.type = some (.struct #[n0, n1, n2, n3, n4])) (hN : oneCellFields P #[n0, n1, n2, n3, n4] = true) (b0 : P.underlying n0.type = some (.int .i64)) (b1 : P.underlying n1.type = some .bool) (b2 : P.underlying n2.type = some (.int .i64)) (b3 : P.underlying n3.type = some .string) (b4 : P.underlying n4.type = some (.int .i64))
    (uL : P.underlying fL.type = some (.slice el)) (uE : P.underlying el = some (.int .i64)) (cE : P.cellsOf el = 1)
    (h : DataW.trod enc P w base spare held fuel t cs = some y) : ∃ x : BlkA, cs = x.cells ∧ IntsAt w x.a x.b.nl ∧ x.b.nl.length ≤ maxLen ∧ x.b.nn.size ≤ maxLen := by
  obtain ⟨xs, n, _, rfl, hl, hlen, hf⟩ := DataW.trod_struct ht h
  rw [hC] at hl
  match cs, hl, xs, hlen with
  | [c0, c1, c2, c3, c4, c5, c6, c7, c8, c9], _, [y0, y1, y2], _ =>
    have g0 := hf 0 fH rfl
    have g1 := hf 1 fN rfl
    have g2 := hf 2 fL rfl
    simp [oH, cH] at g0
    simp [oN, cN] at g1
    simp [oL, cL] at g2
    obtain ⟨k, u, i, e, e0⟩ := open_head_cells uH hH cH a0 a1 a2 a3 g0
    obtain ⟨nu, nd, np, nn, ns, e1, hnn⟩ := open_node_cells uN hN cN b0 b1 b2 b3 b4 g1
    obtain ⟨a, c, l, e2, hi, hl1, hl2⟩ := open_ints_at uL uE cE g2
    simp at e0 e1
    refine ⟨⟨⟨k, u, i, e, nu, nd, np, nn, ns, l⟩, a, c⟩, ?_, hi, Nat.le_trans hl1 hl2, hnn⟩
    obtain ⟨rfl, rfl, rfl, rfl⟩ := e0
    obtain ⟨rfl, rfl, rfl, rfl, rfl⟩ := e1
    rw [e2]
    rfl

/-- A list of blocks, out of what its elements are. -/
theorem open_blks_at {t e : TypeId} {fuel : Nat} {v : Value} {y : DataW H × List MemPlace} (ht : P.underlying t = some (.slice e)) (ce : P.cellsOf e = 10)
    (each : ∀ (n : Nat) (cs : List Value) (z : DataW H × List MemPlace), DataW.trod enc P w base spare held n e cs = some z → ∃ x : BlkA, cs = x.cells ∧ IntsAt w x.a x.b.nl ∧ x.b.nl.length ≤ maxLen ∧ x.b.nn.size ≤ maxLen)
    (h : DataW.trod enc P w base spare held fuel t [v] = some y) : ∃ a c L, v = .slice a (List.length L) c ∧ BlksR w a L ∧ List.length L ≤ c ∧ c ≤ maxLen := by
  rcases DataW.trod_slice ht h with ⟨hcs, _⟩ | ⟨x, len, cap, elems, rest, n, _, hcs, _, hb, hl, hm, hlen, hel, _, _⟩
  · simp at hcs
    exact ⟨none, 0, [], by simpa using hcs, .inl rfl, Nat.le_refl _, by omega⟩
  · simp at hcs
    have each2 : ∀ i, i < len → ∃ q : BlkA, (∀ j z, (q.cells)[j]? = some z → w.cell? (x.add (i * 10 + j)) = some z) ∧ IntsAt w q.a q.b.nl ∧ q.b.nl.length ≤ maxLen ∧ q.b.nn.size ≤ maxLen := by
      intro i hi
      have h1 := hel i hi
      rw [ce, List.getElem?_eq_getElem (by omega)] at h1
      cases hc : w.cells? base (x.add (i * 10)) 10 with
      | none => rw [hc] at h1; simp at h1
      | some cs =>
        rw [hc] at h1
        simp only [Option.bind_some] at h1
        obtain ⟨q, hq, r1, r2, r3⟩ := each _ _ _ h1
        refine ⟨q, fun j z hz => ?_, r1, r2, r3⟩
        obtain ⟨_, _, hcc⟩ := World.cells?_some hc
        have hj : j < 10 := (List.getElem?_eq_some_iff.1 hz).1
        have := hcc j hj
        rw [hq, hz] at this
        rw [← this, Go.Deep.add_add]
    haveI : Inhabited BlkA := ⟨⟨Blk.none, none, 0⟩⟩
    obtain ⟨q, hq⟩ := choose_lt each2
    have hln : ((List.range len).map q).length = len := by simp
    refine ⟨some x, cap, (List.range len).map q, by rw [hln]; exact hcs, ?_, by rw [hln]; exact hl, hm⟩
    by_cases h0 : len = 0
    · left; subst h0; simp
    · right
      have c0 : w.cell? (x.add 0) = _ := (hq 0 (by omega)).1 0 _ rfl
      have hs := addr_none c0
      obtain ⟨b, off, spot⟩ := x
      simp only at hs
      subst hs
      refine ⟨b, off, rfl, ?_, fun i hi => ?_⟩
      · have := World.block_lt_of_cell? w _ c0
        rwa [add_plain] at this
      · have hi' : i < len := by omega
        have := hq i hi'
        simp only [List.getElem_map, List.getElem_range]
        refine ⟨fun j z hz => ?_, this.2⟩
        have hz2 := this.1 j z hz
        rw [add_plain] at hz2
        simpa [Nat.add_assoc] using hz2
end
end Go.Proofs.Ytmkahaddnbhnaaa
