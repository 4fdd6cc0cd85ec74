/-
  What the reading of a list of notes tells.
-/
import Derived.Test.YtiopofemelninaaDoorOprOpen
import Derived.Test.YtiopofemelninaaDoorNoteMath
import Derived.Deep.Slices
import Derived.SliceStrings
namespace Go.Proofs.YtiopofemelninaaDoor
open Go.RowKit Go.ChangeShapes Go.WideShapes Go.Deep
section
variable {H : Type} {enc : TypeId × Value → H} {P : Program} {w : World} {base : Nat} {spare : Nat → Bool} {held : Bool}

/-- A list of strings, where its cell is read. -/
theorem open_strs_at {t e : TypeId} {fuel : Nat} {v : Value} {y : DataW H × List MemPlace} (ht : P.underlying t = some (.slice e)) (he : P.underlying e = some .string) (hc : P.cellsOf e = 1)
    (h : DataW.trod enc P w base spare held fuel t [v] = some y) : ∃ a c l, v = .slice a (List.length l) c ∧ StrsAt w a l ∧ List.length l ≤ c ∧ c ≤ maxLen ∧ ∀ s ∈ l, s.size ≤ maxLen := by
  rcases open_strings ht he hc h with ⟨hcs, _⟩ | ⟨x, len, cap, zs, hcs, _, hl, hm, hz, _, hcell, hwz⟩
  · simp at hcs
    exact ⟨none, 0, [], by simpa using hcs, .inl rfl, Nat.le_refl _, by omega, by simp⟩
  · simp at hcs
    have hz' : len ≤ zs.length := by rw [hz]; split <;> omega
    have hlen : (zs.take len).length = len := by rw [List.length_take]; omega
    refine ⟨some x, cap, zs.take len, by rw [hlen]; exact hcs, ?_, by omega, hm, fun s hs => hwz s (List.mem_of_mem_take hs)⟩
    by_cases h0 : len = 0
    · left; subst h0; simp
    · right
      have c0 := hcell 0 (by omega)
      have hs := addr_none c0
      obtain ⟨b, off, spot⟩ := x
      simp only at hs
      subst hs
      refine ⟨b, off, rfl, ?_, fun i hi => ?_⟩
      · have := World.block_lt_of_cell? w _ c0
        rwa [add_plain] at this
      · have := hcell i (by omega)
        rw [add_plain] at this
        rw [this, List.getElem_take]
        congr 2
        rw [List.getD_eq_getElem?_getD, List.getElem?_eq_getElem (by omega)]
        rfl

/-- The fields of a reply, where its cells are read. -/
theorem open_rpl_cells {t : TypeId} {f0 f1 f2 : Field} {el es : TypeId} {fuel : Nat} {cs : List Value} {y : DataW H × List MemPlace} (ht : P.underlying t = some (.struct #[f0, f1, f2])) (hone : oneCellFields P #[f0, f1, f2] = true) (hC : P.cellsOf t = 3)
    (i0 : P.underlying f0.type = some (.int .i64)) (uL : P.underlying f1.type = some (.slice el)) (uE : P.underlying el = some (.int .i64)) (cE : P.cellsOf el = 1) (uS : P.underlying f2.type = some (.slice es)) (uT : P.underlying es = some .string) (cT : P.cellsOf es = 1)
    (h : DataW.trod enc P w base spare held fuel t cs = some y) : ∃ (rc : Int) (rn : List Int) (rs : List ByteArray) (a2 : Option Addr) (c2 : Nat) (a3 : Option Addr) (c3 : Nat), cs = [.int .i64 rc, .slice a2 rn.length c2, .slice a3 rs.length c3] ∧ IntsAt w a2 rn ∧ rn.length ≤ maxLen ∧ StrsAt w a3 rs ∧ rs.length ≤ maxLen ∧ ∀ s ∈ rs, s.size ≤ maxLen := by
  obtain ⟨xs, n, _, rfl, hl, hlen, hf⟩ := DataW.trod_struct ht h
  rw [hC] at hl
  match cs, hl, xs, hlen with
  | [c0, c1, c2], _, [y0, y1, y2], _ =>
    obtain ⟨o0, k0⟩ := Go.Deep.hone_of hone 0 f0 rfl
    obtain ⟨o1, k1⟩ := Go.Deep.hone_of hone 1 f1 rfl
    obtain ⟨o2, k2⟩ := Go.Deep.hone_of hone 2 f2 rfl
    have g0 := hf 0 f0 rfl
    have g1 := hf 1 f1 rfl
    have g2 := hf 2 f2 rfl
    simp [o0, k0] at g0
    simp [o1, k1] at g1
    simp [o2, k2] at g2
    obtain ⟨rc, e0, -, -⟩ := DataW.trod_int i0 g0
    obtain ⟨a2, c2, l2, e1, hi2, hl2, hm2⟩ := open_ints_at uL uE cE g1
    obtain ⟨a3, c3, l3, e2, hi3, hl3, hm3, hz3⟩ := open_strs_at uS uT cT g2
    simp at e0
    exact ⟨rc, l2, l3, a2, c2, a3, c3, by rw [e0, e1, e2], hi2, Nat.le_trans hl2 hm2, hi3, Nat.le_trans hl3 hm3, hz3⟩

/-- The fields of a note, where its cells are read. -/
theorem open_Nte_cells {t : TypeId} {f0 f1 f2 f3 f4 : Field} {o0 o1 o2 o3 o4 o5 : Field} {oe : TypeId} {r0 r1 r2 : Field} {re rt : TypeId} {fuel : Nat} {cs : List Value} {y : DataW H × List MemPlace} (ht : P.underlying t = some (.struct #[f0, f1, f2, f3, f4])) (hC : P.cellsOf t = 12)
    (p0 : f0.offset = 0) (p1 : f1.offset = 1) (p2 : f2.offset = 2) (p3 : f3.offset = 3) (p4 : f4.offset = 9) (q0 : P.cellsOf f0.type = 1) (q1 : P.cellsOf f1.type = 1) (q2 : P.cellsOf f2.type = 1) (q3 : P.cellsOf f3.type = 6) (q4 : P.cellsOf f4.type = 3)
    (a0 : P.underlying f0.type = some (.int .i64)) (a1 : P.underlying f1.type = some (.int .i64)) (a2 : P.underlying f2.type = some (.int .i64))
    (uO : P.underlying f3.type = some (.struct #[o0, o1, o2, o3, o4, o5])) (hO : oneCellFields P #[o0, o1, o2, o3, o4, o5] = true) (i0 : P.underlying o0.type = some (.int .i64)) (i1 : P.underlying o1.type = some .string) (i2 : P.underlying o2.type = some .string) (i3 : P.underlying o3.type = some .bool) (i4 : P.underlying o4.type = some (.int .i64)) (i5 : P.underlying o5.type = some (.slice oe)) (iE : P.underlying oe = some (.int .i64)) (cE : P.cellsOf oe = 1)
    (uR : P.underlying f4.type = some (.struct #[r0, r1, r2])) (hR : oneCellFields P #[r0, r1, r2] = true) (j0 : P.underlying r0.type = some (.int .i64)) (j1 : P.underlying r1.type = some (.slice re)) (jE : P.underlying re = some (.int .i64)) (dE : P.cellsOf re = 1) (j2 : P.underlying r2.type = some (.slice rt)) (jT : P.underlying rt = some .string) (dT : P.cellsOf rt = 1)
    (h : DataW.trod enc P w base spare held fuel t cs = some y) : ∃ x : NteA, cs = x.cells ∧ x.side w ∧ x.mid := by
  obtain ⟨xs, n, _, rfl, hl, hlen, hf⟩ := DataW.trod_struct ht h
  rw [hC] at hl
  match cs, hl, xs, hlen with
  | [c0, c1, c2, c3, c4, c5, c6, c7, c8, c9, c10, c11], _, [y0, y1, y2, y3, y4], _ =>
    have g0 := hf 0 f0 rfl
    have g1 := hf 1 f1 rfl
    have g2 := hf 2 f2 rfl
    have g3 := hf 3 f3 rfl
    have g4 := hf 4 f4 rfl
    simp [p0, q0] at g0
    simp [p1, q1] at g1
    simp [p2, q2] at g2
    simp [p3, q3] at g3
    simp [p4, q4] at g4
    obtain ⟨k, e0, -, -⟩ := DataW.trod_int a0 g0
    obtain ⟨wo, e1, -, -⟩ := DataW.trod_int a1 g1
    obtain ⟨e, e2, -, -⟩ := DataW.trod_int a2 g2
    obtain ⟨ok, op, ot, od, oi, on, z1, d1, e3, hi, hn, h1, h2⟩ := open_opr_cells uO hO q3 i0 i1 i2 i3 i4 i5 iE cE g3
    obtain ⟨rc, rn, rs, z2, d2, z3, d3, e4, hi2, hn2, hi3, hn3, hz3⟩ := open_rpl_cells uR hR q4 j0 j1 jE dE j2 jT dT g4
    simp at e0 e1 e2 e3 e4
    refine ⟨⟨⟨k, wo, e, ok, op, ot, od, oi, on, rc, rn, rs⟩, z1, d1, z2, d2, z3, d3⟩, ?_, ⟨hi, hi2, hi3⟩, ⟨hn, hn2, hn3, h1, h2, hz3⟩⟩
    obtain ⟨rfl, rfl, rfl, rfl, rfl, rfl⟩ := e3
    obtain ⟨rfl, rfl, rfl⟩ := e4
    rw [e0, e1, e2]
    rfl

/-- A list of blocks, out of what its elements are. -/
theorem open_Ntes_at {t e : TypeId} {fuel : Nat} {v : Value} {y : DataW H × List MemPlace} (ht : P.underlying t = some (.slice e)) (ce : P.cellsOf e = 12)
    (each : ∀ (n : Nat) (cs : List Value) (z : DataW H × List MemPlace), DataW.trod enc P w base spare held n e cs = some z → ∃ x : NteA, cs = x.cells ∧ x.side w ∧ x.mid)
    (h : DataW.trod enc P w base spare held fuel t [v] = some y) : ∃ a c L, v = .slice a (List.length L) c ∧ NtesR w a L ∧ List.length L ≤ c ∧ c ≤ maxLen := by
  rcases DataW.trod_slice ht h with ⟨hcs, _⟩ | ⟨x, len, cap, elems, rest, n, _, hcs, _, hb, hl, hm, hlen, hel, _, _⟩
  · simp at hcs
    exact ⟨none, 0, [], by simpa using hcs, .inl rfl, Nat.le_refl _, by omega⟩
  · simp at hcs
    have each2 : ∀ i, i < len → ∃ q : NteA, (∀ j z, (q.cells)[j]? = some z → w.cell? (x.add (i * 12 + j)) = some z) ∧ q.side w ∧ q.mid := by
      intro i hi
      have h1 := hel i hi
      rw [ce, List.getElem?_eq_getElem (by omega)] at h1
      cases hc : w.cells? base (x.add (i * 12)) 12 with
      | none => rw [hc] at h1; simp at h1
      | some cs =>
        rw [hc] at h1
        simp only [Option.bind_some] at h1
        obtain ⟨q, hq, r1, r2⟩ := each _ _ _ h1
        refine ⟨q, fun j z hz => ?_, r1, r2⟩
        obtain ⟨_, _, hcc⟩ := World.cells?_some hc
        have hj : j < 12 := (List.getElem?_eq_some_iff.1 hz).1
        have := hcc j hj
        rw [hq, hz] at this
        rw [← this, Go.Deep.add_add]
    haveI : Inhabited NteA := ⟨⟨⟨0, 0, 0, 0, ⟨#[]⟩, ⟨#[]⟩, false, 0, [], 0, [], []⟩, none, 0, none, 0, none, 0⟩⟩
    obtain ⟨q, hq⟩ := choose_lt each2
    have hln : ((List.range len).map q).length = len := by simp
    refine ⟨some x, cap, (List.range len).map q, by rw [hln]; exact hcs, ?_, by rw [hln]; exact hl, hm⟩
    by_cases h0 : len = 0
    · left; subst h0; simp
    · right
      have c0 : w.cell? (x.add 0) = _ := (hq 0 (by omega)).1 0 _ rfl
      have hs := addr_none c0
      obtain ⟨b, off, spot⟩ := x
      simp only at hs
      subst hs
      refine ⟨b, off, rfl, ?_, fun i hi => ?_⟩
      · have := World.block_lt_of_cell? w _ c0
        rwa [add_plain] at this
      · have hi' : i < len := by omega
        have := hq i hi'
        simp only [List.getElem_map, List.getElem_range]
        refine ⟨fun j z hz => ?_, this.2⟩
        have hz2 := this.1 j z hz
        rw [add_plain] at hz2
        simpa [Nat.add_assoc] using hz2
end
end Go.Proofs.YtiopofemelninaaDoor
