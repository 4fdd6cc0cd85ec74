/-
  What the reading of a state tells.
-/
import Derived.Test.YtaadbgebcknfkaaStateMath
import Derived.Test.YtaadbgebcknfkaaOpenDev
import Derived.Test.YtaadbgebcknfkaaItemOpen
import Derived.Test.YtaadbgebcknfkaaNoteOpen
import Derived.Deep.Grids
namespace Go.Proofs.Ytaadbgebcknfkaa
open Go.RowKit Go.ChangeShapes Go.WideShapes Go.Deep
section
variable {H : Type} {enc : TypeId × Value → H} {P : Program} {w : World} {base : Nat} {held : Bool}

/-- A list of truths, where its cell is read. -/
theorem open_bools_at {t e : TypeId} {fuel : Nat} {v : Value} {y : DataW H × List MemPlace} (ht : P.underlying t = some (.slice e)) (he : P.underlying e = some .bool) (hc : P.cellsOf e = 1)
    (h : DataW.trod enc P w base (fun _ => true) held fuel t [v] = some y) : ∃ a c l, v = .slice a (List.length l) c ∧ BoolsAt w a l ∧ List.length l ≤ c ∧ c ≤ maxLen := by
  rcases open_bools ht he hc h with ⟨hcs, _⟩ | ⟨x, len, cap, B, hcs, _, hl, hm, _, hcell⟩
  · simp at hcs
    exact ⟨none, 0, [], by simpa using hcs, .inl rfl, Nat.le_refl _, by omega⟩
  · simp at hcs
    have hlen : ((List.range len).map B).length = len := by simp
    refine ⟨some x, cap, (List.range len).map B, by rw [hlen]; exact hcs, ?_, by omega, hm⟩
    by_cases h0 : len = 0
    · left; subst h0; simp
    · right
      have c0 := hcell 0 (by omega)
      have hs := addr_none c0
      obtain ⟨b, off, spot⟩ := x
      simp only at hs
      subst hs
      refine ⟨b, off, rfl, ?_, fun i hi => ?_⟩
      · have := World.block_lt_of_cell? w _ c0
        rwa [add_plain] at this
      · have := hcell i (by omega)
        rw [add_plain] at this
        rw [this]
        simp

/-- The three rows of a device, where its cells are read. -/
theorem open_dev_cells {t : TypeId} {f0 f1 f2 : Field} {e0 e1 : TypeId} {p0 p1 : Field} {fuel : Nat} {cs : List Value} {y : DataW H × List MemPlace} (ht : P.underlying t = some (.struct #[f0, f1, f2])) (hone : oneCellFields P #[f0, f1, f2] = true) (hC : P.cellsOf t = 3)
    (u0 : P.underlying f0.type = some (.slice e0)) (ue0 : P.underlying e0 = some (.int .i64)) (ce0 : P.cellsOf e0 = 1) (u1 : P.underlying f1.type = some (.slice e1)) (u2 : P.underlying f2.type = some (.slice e1)) (ue1 : P.underlying e1 = some (.struct #[p0, p1])) (ce1 : P.cellsOf e1 = 2) (o0 : p0.offset = 0) (o1 : p1.offset = 1) (c0 : P.cellsOf p0.type = 1) (c1 : P.cellsOf p1.type = 1) (t0 : P.underlying p0.type = some (.int .i64)) (t1 : P.underlying p1.type = some (.int .i64))
    (h : DataW.trod enc P w base (fun _ => true) held fuel t cs = some y) : ∃ (D : Dev) (a1 a2 a3 : Option Addr) (c1 c2 c3 : Nat), cs = [.slice a1 D.words.length c1, .slice a2 D.flights.length c2, .slice a3 D.over.length c3] ∧ DevAt w a1 a2 a3 D ∧ D.words.length ≤ maxLen ∧ D.flights.length ≤ maxLen ∧ D.over.length ≤ maxLen := by
  obtain ⟨xs, n, _, rfl, hl, hlen, hf⟩ := DataW.trod_struct ht h
  rw [hC] at hl
  match cs, hl, xs, hlen with
  | [d0, d1, d2], _, [y0, y1, y2], _ =>
    obtain ⟨q0, k0⟩ := Go.Deep.hone_of hone 0 f0 rfl
    obtain ⟨q1, k1⟩ := Go.Deep.hone_of hone 1 f1 rfl
    obtain ⟨q2, k2⟩ := Go.Deep.hone_of hone 2 f2 rfl
    have g0 := hf 0 f0 rfl
    have g1 := hf 1 f1 rfl
    have g2 := hf 2 f2 rfl
    simp [q0, k0] at g0
    simp [q1, k1] at g1
    simp [q2, k2] at g2
    obtain ⟨a1, z1, l1, e1', r1, s1, m1⟩ := open_ints_at u0 ue0 ce0 g0
    obtain ⟨a2, z2, l2, e2', r2, s2, m2⟩ := open_pairs_at u1 ue1 ce1 o0 o1 c0 c1 t0 t1 g1
    obtain ⟨a3, z3, l3, e3', r3, s3, m3⟩ := open_pairs_at u2 ue1 ce1 o0 o1 c0 c1 t0 t1 g2
    exact ⟨⟨l1, l2, l3⟩, a1, a2, a3, z1, z2, z3, by rw [e1', e2', e3'], ⟨r1, r2, r3⟩, Nat.le_trans s1 m1, Nat.le_trans s2 m2, Nat.le_trans s3 m3⟩

/-- A state by value, the readings of its device, its items and its notes handed in. -/
theorem open_sta {r : Reach} {b0 : Nat} {t : TypeId} {f0 f1 f2 f3 f4 f5 f6 f7 f8 : Field} {eB eC : TypeId} {v : Value} {dd : DataW H} {pp : List MemPlace} (ht : P.underlying t = some (.struct #[f0, f1, f2, f3, f4, f5, f6, f7, f8])) (hC : P.cellsOf t = 11)
    (p0 : f0.offset = 0) (p1 : f1.offset = 1) (p2 : f2.offset = 2) (p3 : f3.offset = 3) (p4 : f4.offset = 6) (p5 : f5.offset = 7) (p6 : f6.offset = 8) (p7 : f7.offset = 9) (p8 : f8.offset = 10)
    (q0 : P.cellsOf f0.type = 1) (q1 : P.cellsOf f1.type = 1) (q2 : P.cellsOf f2.type = 1) (q3 : P.cellsOf f3.type = 3) (q4 : P.cellsOf f4.type = 1) (q5 : P.cellsOf f5.type = 1) (q6 : P.cellsOf f6.type = 1) (q7 : P.cellsOf f7.type = 1) (q8 : P.cellsOf f8.type = 1)
    (i0 : P.underlying f0.type = some .bool) (i1 : P.underlying f1.type = some (.int .i64)) (i2 : P.underlying f2.type = some (.int .i64)) (i5 : P.underlying f5.type = some (.int .i64))
    (uB : P.underlying f6.type = some (.slice eB)) (ueB : P.underlying eB = some .bool) (ceB : P.cellsOf eB = 1) (uC : P.underlying f7.type = some (.slice eC)) (ueC : P.underlying eC = some (.int .i64)) (ceC : P.cellsOf eC = 1)
    (dev : ∀ (n : Nat) (cs : List Value) (z : DataW H × List MemPlace), DataW.trod enc P w base (fun _ => true) held n f3.type cs = some z → ∃ (D : Dev) (a1 a2 a3 : Option Addr) (c1 c2 c3 : Nat), cs = [.slice a1 D.words.length c1, .slice a2 D.flights.length c2, .slice a3 D.over.length c3] ∧ DevAt w a1 a2 a3 D ∧ D.words.length ≤ maxLen ∧ D.flights.length ≤ maxLen ∧ D.over.length ≤ maxLen)
    (its : ∀ (n : Nat) (u : Value) (z : DataW H × List MemPlace), DataW.trod enc P w base (fun _ => true) held n f4.type [u] = some z → ∃ a c M, u = .slice a (List.length M) c ∧ ItmsR w a M ∧ List.length M ≤ c ∧ c ≤ maxLen)
    (nts : ∀ (n : Nat) (u : Value) (z : DataW H × List MemPlace), DataW.trod enc P w base (fun _ => true) held n f8.type [u] = some z → ∃ a c M, u = .slice a (List.length M) c ∧ NtesR w a M ∧ List.length M ≤ c ∧ c ≤ maxLen)
    (hv : Value.okWide P w r b0 t v) (h : DataW.Trod enc P w base (fun _ => true) held t v dd pp) : ∃ x : StaA, v = .agg #[.bool x.up, .int .i64 x.now, .int .i64 x.su, .slice x.a1 x.D.words.length x.c1, .slice x.a2 x.D.flights.length x.c2, .slice x.a3 x.D.over.length x.c3, .slice x.aI x.LI.length x.cI, .int .i64 x.fr, .slice x.aB x.bl.length x.cB, .slice x.aC x.cl.length x.cC, .slice x.aN x.LN.length x.cN] ∧ x.sideR w ∧ x.lens maxLen := by
  obtain ⟨cs, rfl, hsz⟩ := okWide_struct ht hv
  obtain ⟨fuel, hf0⟩ := h
  obtain ⟨l⟩ := cs
  simp [Value.cells] at hf0
  obtain ⟨xs, n, _, _, hl, hlen, hf⟩ := DataW.trod_struct ht hf0
  rw [hC] at hl
  match l, hl, xs, hlen with
  | [c0, c1, c2, c3, c4, c5, c6, c7, c8, c9, c10], _, [y0, y1, y2, y3, y4, y5, y6, y7, y8], _ =>
    have g0 := hf 0 f0 rfl
    have g1 := hf 1 f1 rfl
    have g2 := hf 2 f2 rfl
    have g3 := hf 3 f3 rfl
    have g4 := hf 4 f4 rfl
    have g5 := hf 5 f5 rfl
    have g6 := hf 6 f6 rfl
    have g7 := hf 7 f7 rfl
    have g8 := hf 8 f8 rfl
    simp [p0, q0] at g0
    simp [p1, q1] at g1
    simp [p2, q2] at g2
    simp [p3, q3] at g3
    simp [p4, q4] at g4
    simp [p5, q5] at g5
    simp [p6, q6] at g6
    simp [p7, q7] at g7
    simp [p8, q8] at g8
    obtain ⟨up, e0, -⟩ := DataW.trod_bool i0 g0
    obtain ⟨now, e1, -, -⟩ := DataW.trod_int i1 g1
    obtain ⟨su, e2, -, -⟩ := DataW.trod_int i2 g2
    obtain ⟨D, a1, a2, a3, d1, d2, d3, e3, hd, m1, m2, m3⟩ := dev _ _ _ g3
    obtain ⟨aI, cI, LI, e4, hi, hi1, hi2⟩ := its _ _ _ g4
    obtain ⟨fr, e5, -, -⟩ := DataW.trod_int i5 g5
    obtain ⟨aB, cB, bl, e6, hb, hb1, hb2⟩ := open_bools_at uB ueB ceB g6
    obtain ⟨aC, cC, cl, e7, hc, hc1, hc2⟩ := open_ints_at uC ueC ceC g7
    obtain ⟨aN, cN, LN, e8, hn, hn1, hn2⟩ := nts _ _ _ g8
    simp at e0 e1 e2 e5
    refine ⟨⟨up, now, su, D, a1, a2, a3, d1, d2, d3, LI, aI, cI, fr, bl, aB, cB, cl, aC, cC, LN, aN, cN⟩, ?_, ⟨hd, hi, hb, hc, hn⟩, ⟨m1, m2, m3, Nat.le_trans hi1 hi2, Nat.le_trans hb1 hb2, Nat.le_trans hc1 hc2, Nat.le_trans hn1 hn2⟩⟩
    simp only [List.cons.injEq, and_true] at e3
    obtain ⟨rfl, rfl, rfl⟩ := e3
    rw [e0, e1, e2, e4, e5, e6, e7, e8]
end
end Go.Proofs.Ytaadbgebcknfkaa
