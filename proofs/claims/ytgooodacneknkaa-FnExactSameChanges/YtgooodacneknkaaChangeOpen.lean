/-
  What the reading of a list of records (Change) tells.
-/
import Derived.Test.YtgooodacneknkaaOpenNode
import Derived.Test.YtgooodacneknkaaChangeMath
import Derived.Deep.Slices
namespace Go.Proofs.Ytgooodacneknkaa
open Go.RowKit Go.ChangeShapes Go.WideShapes Go.Deep
section
variable {H : Type} {enc : TypeId × Value → H} {P : Program} {w : World} {base : Nat} {spare : Nat → Bool} {held : Bool}

/-- The fields of a record, where its cells are read. -/
theorem open_Chn_cells {t : TypeId} {fk fu fi fN fL : Field} {n0 n1 n2 n3 n4 : Field} {el : TypeId} {fuel : Nat} {cs : List Value} {y : DataW H × List MemPlace} (ht : P.underlying t = some (.struct #[fk, fu, fi, fN, fL])) (hC : P.cellsOf t = 9)
    (ok : fk.offset = 0) (ou : fu.offset = 1) (oi : fi.offset = 2) (oN : fN.offset = 3) (oL : fL.offset = 8) (ck : P.cellsOf fk.type = 1) (cu : P.cellsOf fu.type = 1) (ci : P.cellsOf fi.type = 1) (cN : P.cellsOf fN.type = 5) (cL : P.cellsOf fL.type = 1)
    (a0 : P.underlying fk.type = some (.int .i64)) (a1 : P.underlying fu.type = some (.int .i64)) (a2 : P.underlying fi.type = some (.int .i64))
    (uN : P.underlying fN.type = some (.struct #[n0, n1, n2, n3, n4])) (hN : oneCellFields P #[n0, n1, n2, n3, n4] = true) (b0 : P.underlying n0.type = some (.int .i64)) (b1 : P.underlying n1.type = some .bool) (b2 : P.underlying n2.type = some (.int .i64)) (b3 : P.underlying n3.type = some .string) (b4 : P.underlying n4.type = some (.int .i64))
    (uL : P.underlying fL.type = some (.slice el)) (uE : P.underlying el = some (.int .i64)) (cE : P.cellsOf el = 1)
    (h : DataW.trod enc P w base spare held fuel t cs = some y) : ∃ x : ChnA, cs = x.cells ∧ IntsAt w x.a x.b.nl ∧ x.b.nl.length ≤ maxLen ∧ x.b.nn.size ≤ maxLen := by
  obtain ⟨xs, n, _, rfl, hl, hlen, hf⟩ := DataW.trod_struct ht h
  rw [hC] at hl
  match cs, hl, xs, hlen with
  | [c0, c1, c2, c3, c4, c5, c6, c7, c8], _, [y0, y1, y2, y3, y4], _ =>
    have g0 := hf 0 fk rfl
    have g1 := hf 1 fu rfl
    have g2 := hf 2 fi rfl
    have g3 := hf 3 fN rfl
    have g4 := hf 4 fL rfl
    simp [ok, ck] at g0
    simp [ou, cu] at g1
    simp [oi, ci] at g2
    simp [oN, cN] at g3
    simp [oL, cL] at g4
    obtain ⟨k, e0, -, -⟩ := DataW.trod_int a0 g0
    obtain ⟨u, e1, -, -⟩ := DataW.trod_int a1 g1
    obtain ⟨i, e2, -, -⟩ := DataW.trod_int a2 g2
    obtain ⟨nu, nd, np, nn, ns, e3, hnn⟩ := open_node_cells uN hN cN b0 b1 b2 b3 b4 g3
    obtain ⟨a, c, l, e4, hi, hl1, hl2⟩ := open_ints_at uL uE cE g4
    simp at e0 e1 e2 e3
    refine ⟨⟨⟨k, u, i, nu, nd, np, nn, ns, l⟩, a, c⟩, ?_, hi, Nat.le_trans hl1 hl2, hnn⟩
    obtain ⟨rfl, rfl, rfl, rfl, rfl⟩ := e3
    rw [e0, e1, e2, e4]
    rfl

/-- A list of blocks, out of what its elements are. -/
theorem open_Chns_at {t e : TypeId} {fuel : Nat} {v : Value} {y : DataW H × List MemPlace} (ht : P.underlying t = some (.slice e)) (ce : P.cellsOf e = 9)
    (each : ∀ (n : Nat) (cs : List Value) (z : DataW H × List MemPlace), DataW.trod enc P w base spare held n e cs = some z → ∃ x : ChnA, cs = x.cells ∧ IntsAt w x.a x.b.nl ∧ x.b.nl.length ≤ maxLen ∧ x.b.nn.size ≤ maxLen)
    (h : DataW.trod enc P w base spare held fuel t [v] = some y) : ∃ a c L, v = .slice a (List.length L) c ∧ ChnsR w a L ∧ List.length L ≤ c ∧ c ≤ maxLen := by
  rcases DataW.trod_slice ht h with ⟨hcs, _⟩ | ⟨x, len, cap, elems, rest, n, _, hcs, _, hb, hl, hm, hlen, hel, _, _⟩
  · simp at hcs
    exact ⟨none, 0, [], by simpa using hcs, .inl rfl, Nat.le_refl _, by omega⟩
  · simp at hcs
    have each2 : ∀ i, i < len → ∃ q : ChnA, (∀ j z, (q.cells)[j]? = some z → w.cell? (x.add (i * 9 + j)) = some z) ∧ IntsAt w q.a q.b.nl ∧ q.b.nl.length ≤ maxLen ∧ q.b.nn.size ≤ maxLen := by
      intro i hi
      have h1 := hel i hi
      rw [ce, List.getElem?_eq_getElem (by omega)] at h1
      cases hc : w.cells? base (x.add (i * 9)) 9 with
      | none => rw [hc] at h1; simp at h1
      | some cs =>
        rw [hc] at h1
        simp only [Option.bind_some] at h1
        obtain ⟨q, hq, r1, r2, r3⟩ := each _ _ _ h1
        refine ⟨q, fun j z hz => ?_, r1, r2, r3⟩
        obtain ⟨_, _, hcc⟩ := World.cells?_some hc
        have hj : j < 9 := (List.getElem?_eq_some_iff.1 hz).1
        have := hcc j hj
        rw [hq, hz] at this
        rw [← this, Go.Deep.add_add]
    haveI : Inhabited ChnA := ⟨⟨⟨0, 0, 0, 0, false, 0, ⟨#[]⟩, 0, []⟩, none, 0⟩⟩
    obtain ⟨q, hq⟩ := choose_lt each2
    have hln : ((List.range len).map q).length = len := by simp
    refine ⟨some x, cap, (List.range len).map q, by rw [hln]; exact hcs, ?_, by rw [hln]; exact hl, hm⟩
    by_cases h0 : len = 0
    · left; subst h0; simp
    · right
      have c0 : w.cell? (x.add 0) = _ := (hq 0 (by omega)).1 0 _ rfl
      have hs := addr_none c0
      obtain ⟨b, off, spot⟩ := x
      simp only at hs
      subst hs
      refine ⟨b, off, rfl, ?_, fun i hi => ?_⟩
      · have := World.block_lt_of_cell? w _ c0
        rwa [add_plain] at this
      · have hi' : i < len := by omega
        have := hq i hi'
        simp only [List.getElem_map, List.getElem_range]
        refine ⟨fun j z hz => ?_, this.2⟩
        have hz2 := this.1 j z hz
        rw [add_plain] at hz2
        simpa [Nat.add_assoc] using hz2
end
end Go.Proofs.Ytgooodacneknkaa
