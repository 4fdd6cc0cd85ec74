/-
  Lists of records (Change) in memory.
-/
import Derived.Test.YtgooodacneknkaaNodeEq
import Derived.Test.YtgooodacneknkaaEqB
import Derived.Laws.StructEq
namespace Go.Proofs.Ytgooodacneknkaa
open Go.RowKit
set_option linter.unusedVariables false

structure Chn where
  k : Int
  u : Int
  i : Int
  nu : Int
  nd : Bool
  np : Int
  nn : ByteArray
  ns : Int
  nl : List Int
structure ChnA where
  b : Chn
  a : Option Addr
  c : Nat
def ChnA.cells (x : ChnA) : List Value := [.int .i64 x.b.k, .int .i64 x.b.u, .int .i64 x.b.i, .int .i64 x.b.nu, .bool x.b.nd, .int .i64 x.b.np, .string x.b.nn, .int .i64 x.b.ns, .slice x.a x.b.nl.length x.c]
def ChnsAt (w : World) (a : Option Addr) (L : List ChnA) : Prop :=
  L = [] ∨ ∃ b o, a = some ⟨b, o, none⟩ ∧ b < w.heap.size ∧ ∀ i (h : i < L.length), (∀ j v, (L[i].cells)[j]? = some v → w.cell? ⟨b, o + i * 9 + j, none⟩ = some v) ∧ IntsAt w L[i].a L[i].b.nl ∧ L[i].b.nl.length ≤ 1048576
theorem ChnsAt.at {w : World} {a : Option Addr} {L : List ChnA} (h : ChnsAt w a L) {k : Nat} (hk : k < L.length) :
    ∃ b o, a = some ⟨b, o, none⟩ ∧ b < w.heap.size ∧ ∀ i (h : i < L.length), (∀ j v, (L[i].cells)[j]? = some v → w.cell? ⟨b, o + i * 9 + j, none⟩ = some v) ∧ IntsAt w L[i].a L[i].b.nl ∧ L[i].b.nl.length ≤ 1048576 := by
  rcases h with rfl | h
  · simp at hk
  · exact h
theorem ChnsAt.below {w w' : World} {a : Option Addr} {L : List ChnA} (h : ChnsAt w a L) (hb : Below w.heap.size w w') : ChnsAt w' a L := by
  rcases h with rfl | ⟨b, o, rfl, hlt, hc⟩
  · exact .inl rfl
  · exact .inr ⟨b, o, rfl, Nat.lt_of_lt_of_le hlt hb.size, fun i hi => ⟨fun j v hv => (hb.cell (p := ⟨b, o + i * 9 + j, none⟩) hlt).trans ((hc i hi).1 j v hv), (hc i hi).2.1.below hb, (hc i hi).2.2⟩⟩
def ChnsR (w : World) (a : Option Addr) (L : List ChnA) : Prop :=
  L = [] ∨ ∃ b o, a = some ⟨b, o, none⟩ ∧ b < w.heap.size ∧ ∀ i (h : i < L.length), (∀ j v, (L[i].cells)[j]? = some v → w.cell? ⟨b, o + i * 9 + j, none⟩ = some v) ∧ IntsAt w L[i].a L[i].b.nl ∧ L[i].b.nl.length ≤ maxLen ∧ L[i].b.nn.size ≤ maxLen
theorem ChnsR.at {w : World} {a : Option Addr} {L : List ChnA} (h : ChnsR w a L) {k : Nat} (hk : k < L.length) :
    ∃ b o, a = some ⟨b, o, none⟩ ∧ b < w.heap.size ∧ ∀ i (h : i < L.length), (∀ j v, (L[i].cells)[j]? = some v → w.cell? ⟨b, o + i * 9 + j, none⟩ = some v) ∧ IntsAt w L[i].a L[i].b.nl ∧ L[i].b.nl.length ≤ maxLen ∧ L[i].b.nn.size ≤ maxLen := by
  rcases h with rfl | h
  · simp at hk
  · exact h
theorem ChnsR.below {w w' : World} {a : Option Addr} {L : List ChnA} (h : ChnsR w a L) (hb : Below w.heap.size w w') : ChnsR w' a L := by
  rcases h with rfl | ⟨b, o, rfl, hlt, hc⟩
  · exact .inl rfl
  · exact .inr ⟨b, o, rfl, Nat.lt_of_lt_of_le hlt hb.size, fun i hi => ⟨fun j v hv => (hb.cell (p := ⟨b, o + i * 9 + j, none⟩) hlt).trans ((hc i hi).1 j v hv), (hc i hi).2.1.below hb, (hc i hi).2.2⟩⟩
theorem ChnsR.toAt {w : World} {a : Option Addr} {L : List ChnA} (h : ChnsR w a L) (hs : ∀ x ∈ L, x.b.nl.length ≤ 1048576) : ChnsAt w a L := by
  rcases h with rfl | ⟨b, o, rfl, hb, hc⟩
  · exact .inl rfl
  · exact .inr ⟨b, o, rfl, hb, fun i hi => ⟨(hc i hi).1, (hc i hi).2.1, hs _ (List.getElem_mem hi)⟩⟩
def sameChn (x y : Chn) : Bool := (x.k == y.k) && (x.u == y.u) && (x.i == y.i) && (x.nu == y.nu && x.nd == y.nd && x.np == y.np && decide (x.nn = y.nn) && x.ns == y.ns) && decide (x.nl = y.nl)
def sameChns : List ChnA → List ChnA → Bool
  | [], [] => true
  | x :: L, y :: M => sameChn x.b y.b && sameChns L M
  | _, _ => false
theorem sameChns_len : ∀ {L M : List ChnA}, L.length ≠ M.length → sameChns L M = false
  | [], [], h => by simp at h
  | [], _ :: _, _ => rfl
  | _ :: _, [], _ => rfl
  | x :: L, y :: M, h => by
    rw [sameChns, sameChns_len (L := L) (M := M) (by simpa using h)]
    simp
theorem sameChns_drop {L M : List ChnA} {k : Nat} (h1 : k < L.length) (h2 : k < M.length) : sameChns (L.drop k) (M.drop k) = (sameChn L[k].b M[k].b && sameChns (L.drop (k + 1)) (M.drop (k + 1))) := by
  rw [List.drop_eq_getElem_cons h1, List.drop_eq_getElem_cons h2, sameChns]
theorem sameChns_map : ∀ {L L' M M' : List ChnA}, L.map ChnA.b = L'.map ChnA.b → M.map ChnA.b = M'.map ChnA.b → sameChns L M = sameChns L' M'
  | [], [], [], [], _, _ => rfl
  | [], [], _ :: _, _ :: _, _, _ => rfl
  | _ :: _, _ :: _, [], [], _, _ => rfl
  | x :: L, x' :: L', y :: M, y' :: M', h1, h2 => by
    simp only [List.map_cons, List.cons.injEq] at h1 h2
    rw [sameChns, sameChns, h1.1, h2.1, sameChns_map h1.2 h2.2]
end Go.Proofs.Ytgooodacneknkaa
