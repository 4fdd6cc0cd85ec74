/-
  Lists of blocks in memory; when two heads, two nodes are one.
-/
import Derived.Test.YtiopofemelninaaGreatReadMath
import Derived.Test.YtiopofemelninaaGreatEqB
import Derived.Test.YtiopofemelninaaGreatWideBox
import Derived.Laws.StructEq
namespace Go.Proofs.YtiopofemelninaaGreat
open Go.RowKit
set_option linter.unusedVariables false

/-- A block, and where its numbers lie. -/
structure BlkA where
  b : Blk
  a : Option Addr
  c : Nat
def BlkA.cells (x : BlkA) : List Value := [.int .i64 x.b.k, .int .i64 x.b.u, .int .i64 x.b.i, .int .i64 x.b.e, .int .i64 x.b.nu, .bool x.b.nd, .int .i64 x.b.np, .string x.b.nn, .int .i64 x.b.ns, .slice x.a x.b.nl.length x.c]
/-- The blocks L lie at a. -/
def BlksAt (w : World) (a : Option Addr) (L : List BlkA) : Prop :=
  L = [] ∨ ∃ b o, a = some ⟨b, o, none⟩ ∧ b < w.heap.size ∧ ∀ i (h : i < L.length), (∀ j v, (L[i].cells)[j]? = some v → w.cell? ⟨b, o + i * 10 + j, none⟩ = some v) ∧ IntsAt w L[i].a L[i].b.nl ∧ L[i].b.nl.length ≤ 1048576
theorem BlksAt.at {w : World} {a : Option Addr} {L : List BlkA} (h : BlksAt w a L) {k : Nat} (hk : k < L.length) :
    ∃ b o, a = some ⟨b, o, none⟩ ∧ b < w.heap.size ∧ ∀ i (h : i < L.length), (∀ j v, (L[i].cells)[j]? = some v → w.cell? ⟨b, o + i * 10 + j, none⟩ = some v) ∧ IntsAt w L[i].a L[i].b.nl ∧ L[i].b.nl.length ≤ 1048576 := by
  rcases h with rfl | h
  · simp at hk
  · exact h
theorem BlksAt.below {w w' : World} {a : Option Addr} {L : List BlkA} (h : BlksAt w a L) (hb : Below w.heap.size w w') : BlksAt w' a L := by
  rcases h with rfl | ⟨b, o, rfl, hlt, hc⟩
  · exact .inl rfl
  · exact .inr ⟨b, o, rfl, Nat.lt_of_lt_of_le hlt hb.size, fun i hi => ⟨fun j v hv => (hb.cell (p := ⟨b, o + i * 10 + j, none⟩) hlt).trans ((hc i hi).1 j v hv), (hc i hi).2.1.below hb, (hc i hi).2.2⟩⟩

theorem bytes_loop (a : ByteArray) : ∀ (n i : Nat) (r : List UInt8), a.size - i = n → ByteArray.toList.loop a i r = r.reverse ++ a.data.toList.drop i
  | 0, i, r, h => by
    rw [ByteArray.toList.loop, if_neg (by omega), List.drop_eq_nil_of_le (by show a.data.toList.length ≤ i; rw [Array.length_toList]; exact Nat.le_of_sub_eq_zero h)]
    simp
  | n + 1, i, r, h => by
    have hi : i < a.size := by omega
    have hi2 : i < a.data.toList.length := by rw [Array.length_toList]; exact hi
    rw [ByteArray.toList.loop, if_pos hi, bytes_loop a n (i + 1) _ (by omega), List.drop_eq_getElem_cons hi2]
    have : a.get! i = a.data.toList[i] := by
      simp [ByteArray.get!, getElem!_pos, hi]
    rw [this]; simp
theorem bytes_toList_inj {a b : ByteArray} (h : a.toList = b.toList) : a = b := by
  have e : ∀ x : ByteArray, x.toList = x.data.toList := fun x => by
    rw [ByteArray.toList, bytes_loop x _ 0 [] rfl]; simp
  rw [e, e] at h
  cases a; cases b
  simp at h
  simpa using h

/-- Two heads are one. -/
def sameHead (x y : Blk) : Bool := x.k == y.k && x.u == y.u && x.i == y.i && x.e == y.e
/-- Two nodes are one. -/
def sameNode (x y : Blk) : Bool := x.nu == y.nu && x.nd == y.nd && x.np == y.np && decide (x.nn = y.nn) && x.ns == y.ns
def sameBlk (x y : Blk) : Bool := sameHead x y && sameNode x y && decide (x.nl = y.nl)

theorem eqlHead (k u i e k' u' i' e' : Int) (w : World) : (Op.equalIn 10000 40 (.agg #[.int .i64 k, .int .i64 u, .int .i64 i, .int .i64 e]) (.agg #[.int .i64 k', .int .i64 u', .int .i64 i', .int .i64 e'])).run Tryz.prog w = .ok (k == k' && u == u' && i == i' && e == e') w := by
  have hS : Tryz.prog.underlying 40 = some (.struct (Tryz.prog.fieldsOf 40)) := by kernel_rfl
  have hp : Tryz.prog.stoodInHeld 40 = false := by kernel_rfl
  have u3 := Tryz.underlying2
  have a3 := Tryz.isAgg2
  have z3 := Tryz.sizeOf2
  rw [show (10000 : Nat) = 9999 + 1 from rfl, run_equalIn_agg w 9999 40 _ _ hS hp]
  simp only [Program.fieldsOf, Tryz.underlying40]
  go_simp
  by_cases h1 : k = k' <;> by_cases h2 : u = u' <;> by_cases h3 : i = i' <;> by_cases h4 : e = e' <;> simp [h1, h2, h3, h4]
theorem eqlNode (u : Int) (d : Bool) (p : Int) (nm : ByteArray) (s u' : Int) (d' : Bool) (p' : Int) (nm' : ByteArray) (s' : Int) (w : World) : (Op.equalIn 10000 42 (.agg #[.int .i64 u, .bool d, .int .i64 p, .string nm, .int .i64 s]) (.agg #[.int .i64 u', .bool d', .int .i64 p', .string nm', .int .i64 s'])).run Tryz.prog w = .ok (u == u' && d == d' && p == p' && decide (nm = nm') && s == s') w := by
  have hS : Tryz.prog.underlying 42 = some (.struct (Tryz.prog.fieldsOf 42)) := by kernel_rfl
  have hp : Tryz.prog.stoodInHeld 42 = false := by kernel_rfl
  have u3 := Tryz.underlying2
  have a3 := Tryz.isAgg2
  have z3 := Tryz.sizeOf2
  have u4 := Tryz.underlying4
  have a4 := Tryz.isAgg4
  have z4 := Tryz.sizeOf4
  have u5 := Tryz.underlying9
  have a5 := Tryz.isAgg9
  have z5 := Tryz.sizeOf9
  rw [show (10000 : Nat) = 9999 + 1 from rfl, run_equalIn_agg w 9999 42 _ _ hS hp]
  simp only [Program.fieldsOf, Tryz.underlying42]
  go_simp
  by_cases h1 : u = u' <;> by_cases h2 : d = d' <;> by_cases h3 : p = p' <;> by_cases h4 : nm = nm' <;> by_cases h5 : s = s' <;> simp [h1, h2, h3, h4, h5]
  exact fun h => h4 (bytes_toList_inj h)
end Go.Proofs.YtiopofemelninaaGreat
