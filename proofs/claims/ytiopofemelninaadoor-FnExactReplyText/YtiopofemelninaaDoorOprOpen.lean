/-
  What the reading of an op tells.
-/
import Derived.Test.YtiopofemelninaaDoorOpenNode
import Derived.Test.YtiopofemelninaaDoorRowMath
import Derived.Deep.Slices
namespace Go.Proofs.YtiopofemelninaaDoor
open Go.RowKit Go.ChangeShapes Go.WideShapes Go.Deep
section
variable {H : Type} {enc : TypeId × Value → H} {P : Program} {w : World} {base : Nat} {spare : Nat → Bool} {held : Bool}

/-- The fields of an op, where its cells are read. -/
theorem open_opr_cells {t : TypeId} {f0 f1 f2 f3 f4 f5 : Field} {el : TypeId} {fuel : Nat} {cs : List Value} {y : DataW H × List MemPlace} (ht : P.underlying t = some (.struct #[f0, f1, f2, f3, f4, f5])) (hone : oneCellFields P #[f0, f1, f2, f3, f4, f5] = true) (hC : P.cellsOf t = 6)
    (i0 : P.underlying f0.type = some (.int .i64)) (i1 : P.underlying f1.type = some .string) (i2 : P.underlying f2.type = some .string) (i3 : P.underlying f3.type = some .bool) (i4 : P.underlying f4.type = some (.int .i64)) (uL : P.underlying f5.type = some (.slice el)) (uE : P.underlying el = some (.int .i64)) (cE : P.cellsOf el = 1)
    (h : DataW.trod enc P w base spare held fuel t cs = some y) : ∃ (ok : Int) (op ot : ByteArray) (od : Bool) (oi : Int) (on : List Int) (a1 : Option Addr) (c1 : Nat), cs = [.int .i64 ok, .string op, .string ot, .bool od, .int .i64 oi, .slice a1 on.length c1] ∧ IntsAt w a1 on ∧ on.length ≤ maxLen ∧ op.size ≤ maxLen ∧ ot.size ≤ maxLen := by
  obtain ⟨xs, n, _, rfl, hl, hlen, hf⟩ := DataW.trod_struct ht h
  rw [hC] at hl
  match cs, hl, xs, hlen with
  | [c0, c1, c2, c3, c4, c5], _, [y0, y1, y2, y3, y4, y5], _ =>
    obtain ⟨o0, k0⟩ := Go.Deep.hone_of hone 0 f0 rfl
    obtain ⟨o1, k1⟩ := Go.Deep.hone_of hone 1 f1 rfl
    obtain ⟨o2, k2⟩ := Go.Deep.hone_of hone 2 f2 rfl
    obtain ⟨o3, k3⟩ := Go.Deep.hone_of hone 3 f3 rfl
    obtain ⟨o4, k4⟩ := Go.Deep.hone_of hone 4 f4 rfl
    obtain ⟨o5, k5⟩ := Go.Deep.hone_of hone 5 f5 rfl
    have g0 := hf 0 f0 rfl
    have g1 := hf 1 f1 rfl
    have g2 := hf 2 f2 rfl
    have g3 := hf 3 f3 rfl
    have g4 := hf 4 f4 rfl
    have g5 := hf 5 f5 rfl
    simp [o0, k0] at g0
    simp [o1, k1] at g1
    simp [o2, k2] at g2
    simp [o3, k3] at g3
    simp [o4, k4] at g4
    simp [o5, k5] at g5
    obtain ⟨ok, e0, -, -⟩ := DataW.trod_int i0 g0
    obtain ⟨op, e1, -, h1⟩ := DataW.trod_string i1 g1
    obtain ⟨ot, e2, -, h2⟩ := DataW.trod_string i2 g2
    obtain ⟨od, e3, -⟩ := DataW.trod_bool i3 g3
    obtain ⟨oi, e4, -, -⟩ := DataW.trod_int i4 g4
    obtain ⟨a, c, l, e5, hi, hl1, hl2⟩ := open_ints_at uL uE cE g5
    simp at e0 e1 e2 e3 e4
    exact ⟨ok, op, ot, od, oi, l, a, c, by rw [e0, e1, e2, e3, e4, e5], hi, Nat.le_trans hl1 hl2, h1, h2⟩

/-- An op by value. -/
theorem open_opr {r : Reach} {b0 : Nat} {t : TypeId} {f0 f1 f2 f3 f4 f5 : Field} {el : TypeId} {v : Value} {dd : DataW H} {pp : List MemPlace} (ht : P.underlying t = some (.struct #[f0, f1, f2, f3, f4, f5])) (hone : oneCellFields P #[f0, f1, f2, f3, f4, f5] = true) (hC : P.cellsOf t = 6)
    (i0 : P.underlying f0.type = some (.int .i64)) (i1 : P.underlying f1.type = some .string) (i2 : P.underlying f2.type = some .string) (i3 : P.underlying f3.type = some .bool) (i4 : P.underlying f4.type = some (.int .i64)) (uL : P.underlying f5.type = some (.slice el)) (uE : P.underlying el = some (.int .i64)) (cE : P.cellsOf el = 1)
    (hv : Value.okWide P w r b0 t v) (h : DataW.Trod enc P w base spare held t v dd pp) : ∃ (ok : Int) (op ot : ByteArray) (od : Bool) (oi : Int) (on : List Int) (a1 : Option Addr) (c1 : Nat), v = .agg #[.int .i64 ok, .string op, .string ot, .bool od, .int .i64 oi, .slice a1 on.length c1] ∧ IntsAt w a1 on ∧ on.length ≤ maxLen ∧ op.size ≤ maxLen ∧ ot.size ≤ maxLen := by
  obtain ⟨cs, rfl, hsz⟩ := okWide_struct ht hv
  obtain ⟨fuel, hf⟩ := h
  obtain ⟨ok, op, ot, od, oi, on, a1, c1, hc, hi, hn, h1, h2⟩ := open_opr_cells ht hone hC i0 i1 i2 i3 i4 uL uE cE hf
  refine ⟨ok, op, ot, od, oi, on, a1, c1, ?_, hi, hn, h1, h2⟩
  obtain ⟨l⟩ := cs
  simp [Value.cells] at hc
  rw [hc]
end
end Go.Proofs.YtiopofemelninaaDoor
