/-
  What the reading of an event tells.
-/
import Derived.Test.YtcccpifecojijaaDoorOprOpen
import Derived.Deep.Slices
namespace Go.Proofs.YtcccpifecojijaaDoor
open Go.RowKit Go.ChangeShapes Go.WideShapes Go.Deep
section
variable {H : Type} {enc : TypeId × Value → H} {P : Program} {w : World} {base : Nat} {spare : Nat → Bool} {held : Bool}

/-- The fields of an event, where its cells are read. -/
theorem open_evt_cells {t : TypeId} {f0 f1 f2 f3 f4 : Field} {fe : TypeId} {o0 o1 o2 o3 o4 o5 : Field} {oe : TypeId} {fuel : Nat} {cs : List Value} {y : DataW H × List MemPlace} (ht : P.underlying t = some (.struct #[f0, f1, f2, f3, f4])) (hC : P.cellsOf t = 10)
    (p0 : f0.offset = 0) (p1 : f1.offset = 1) (p2 : f2.offset = 2) (p3 : f3.offset = 3) (p4 : f4.offset = 4) (q0 : P.cellsOf f0.type = 1) (q1 : P.cellsOf f1.type = 1) (q2 : P.cellsOf f2.type = 1) (q3 : P.cellsOf f3.type = 1) (q4 : P.cellsOf f4.type = 6)
    (a0 : P.underlying f0.type = some (.int .i64)) (a1' : P.underlying f1.type = some (.int .i64)) (a2 : P.underlying f2.type = some (.int .i64)) (uF : P.underlying f3.type = some (.slice fe)) (uG : P.underlying fe = some (.int .i64)) (cG : P.cellsOf fe = 1)
    (uO : P.underlying f4.type = some (.struct #[o0, o1, o2, o3, o4, o5])) (hO : oneCellFields P #[o0, o1, o2, o3, o4, o5] = true) (i0 : P.underlying o0.type = some (.int .i64)) (i1 : P.underlying o1.type = some .string) (i2 : P.underlying o2.type = some .string) (i3 : P.underlying o3.type = some .bool) (i4 : P.underlying o4.type = some (.int .i64)) (i5 : P.underlying o5.type = some (.slice oe)) (iE : P.underlying oe = some (.int .i64)) (cE : P.cellsOf oe = 1)
    (h : DataW.trod enc P w base spare held fuel t cs = some y) : ∃ (k wo at_ : Int) (fl : List Int) (ok : Int) (op ot : ByteArray) (od : Bool) (oi : Int) (on : List Int) (af : Option Addr) (cf : Nat) (a1 : Option Addr) (c1 : Nat), cs = [.int .i64 k, .int .i64 wo, .int .i64 at_, .slice af fl.length cf, .int .i64 ok, .string op, .string ot, .bool od, .int .i64 oi, .slice a1 on.length c1] ∧ IntsAt w af fl ∧ IntsAt w a1 on ∧ fl.length ≤ maxLen ∧ on.length ≤ maxLen ∧ op.size ≤ maxLen ∧ ot.size ≤ maxLen := by
  obtain ⟨xs, n, _, rfl, hl, hlen, hf⟩ := DataW.trod_struct ht h
  rw [hC] at hl
  match cs, hl, xs, hlen with
  | [c0, c1, c2, c3, c4, c5, c6, c7, c8, c9], _, [y0, y1, y2, y3, y4], _ =>
    have g0 := hf 0 f0 rfl
    have g1 := hf 1 f1 rfl
    have g2 := hf 2 f2 rfl
    have g3 := hf 3 f3 rfl
    have g4 := hf 4 f4 rfl
    simp [p0, q0] at g0
    simp [p1, q1] at g1
    simp [p2, q2] at g2
    simp [p3, q3] at g3
    simp [p4, q4] at g4
    obtain ⟨k, e0, -, -⟩ := DataW.trod_int a0 g0
    obtain ⟨wo, e1, -, -⟩ := DataW.trod_int a1' g1
    obtain ⟨at_, e2, -, -⟩ := DataW.trod_int a2 g2
    obtain ⟨af, cf, fl, e3, hif, hl1, hl2⟩ := open_ints_at uF uG cG g3
    obtain ⟨ok, op, ot, od, oi, on, z1, d1, e4, hi, hn, h1, h2⟩ := open_opr_cells uO hO q4 i0 i1 i2 i3 i4 i5 iE cE g4
    simp at e0 e1 e2 e4
    refine ⟨k, wo, at_, fl, ok, op, ot, od, oi, on, af, cf, z1, d1, ?_, hif, hi, Nat.le_trans hl1 hl2, hn, h1, h2⟩
    obtain ⟨rfl, rfl, rfl, rfl, rfl, rfl⟩ := e4
    rw [e0, e1, e2, e3]

/-- An event by value. -/
theorem open_evt {r : Reach} {b0 : Nat} {t : TypeId} {f0 f1 f2 f3 f4 : Field} {fe : TypeId} {o0 o1 o2 o3 o4 o5 : Field} {oe : TypeId} {v : Value} {dd : DataW H} {pp : List MemPlace} (ht : P.underlying t = some (.struct #[f0, f1, f2, f3, f4])) (hC : P.cellsOf t = 10)
    (p0 : f0.offset = 0) (p1 : f1.offset = 1) (p2 : f2.offset = 2) (p3 : f3.offset = 3) (p4 : f4.offset = 4) (q0 : P.cellsOf f0.type = 1) (q1 : P.cellsOf f1.type = 1) (q2 : P.cellsOf f2.type = 1) (q3 : P.cellsOf f3.type = 1) (q4 : P.cellsOf f4.type = 6)
    (a0 : P.underlying f0.type = some (.int .i64)) (a1' : P.underlying f1.type = some (.int .i64)) (a2 : P.underlying f2.type = some (.int .i64)) (uF : P.underlying f3.type = some (.slice fe)) (uG : P.underlying fe = some (.int .i64)) (cG : P.cellsOf fe = 1)
    (uO : P.underlying f4.type = some (.struct #[o0, o1, o2, o3, o4, o5])) (hO : oneCellFields P #[o0, o1, o2, o3, o4, o5] = true) (i0 : P.underlying o0.type = some (.int .i64)) (i1 : P.underlying o1.type = some .string) (i2 : P.underlying o2.type = some .string) (i3 : P.underlying o3.type = some .bool) (i4 : P.underlying o4.type = some (.int .i64)) (i5 : P.underlying o5.type = some (.slice oe)) (iE : P.underlying oe = some (.int .i64)) (cE : P.cellsOf oe = 1)
    (hv : Value.okWide P w r b0 t v) (h : DataW.Trod enc P w base spare held t v dd pp) : ∃ (k wo at_ : Int) (fl : List Int) (ok : Int) (op ot : ByteArray) (od : Bool) (oi : Int) (on : List Int) (af : Option Addr) (cf : Nat) (a1 : Option Addr) (c1 : Nat), v = .agg #[.int .i64 k, .int .i64 wo, .int .i64 at_, .slice af fl.length cf, .int .i64 ok, .string op, .string ot, .bool od, .int .i64 oi, .slice a1 on.length c1] ∧ IntsAt w af fl ∧ IntsAt w a1 on ∧ fl.length ≤ maxLen ∧ on.length ≤ maxLen ∧ op.size ≤ maxLen ∧ ot.size ≤ maxLen := by
  obtain ⟨cs, rfl, hsz⟩ := okWide_struct ht hv
  obtain ⟨fuel, hf⟩ := h
  obtain ⟨k, wo, at_, fl, ok, op, ot, od, oi, on, af, cf, a1, c1, hc, hr⟩ := open_evt_cells ht hC p0 p1 p2 p3 p4 q0 q1 q2 q3 q4 a0 a1' a2 uF uG cG uO hO i0 i1 i2 i3 i4 i5 iE cE hf
  refine ⟨k, wo, at_, fl, ok, op, ot, od, oi, on, af, cf, a1, c1, ?_, hr⟩
  obtain ⟨l⟩ := cs
  simp [Value.cells] at hc
  rw [hc]
end
end Go.Proofs.YtcccpifecojijaaDoor
