/-
  Lists of records (Item) in memory.
-/
import Derived.Test.YtcmekhpphgkglaaDoorRowMath
import Derived.Test.YtcmekhpphgkglaaDoorEqB
import Derived.Laws.StructEq
namespace Go.Proofs.YtcmekhpphgkglaaDoor
open Go.RowKit
set_option linter.unusedVariables false

structure Itm where
  p : ByteArray
  d : Bool
  l : List Int
structure ItmA where
  b : Itm
  a : Option Addr
  c : Nat
def ItmA.cells (x : ItmA) : List Value := [.string x.b.p, .bool x.b.d, .slice x.a x.b.l.length x.c]
def ItmsAt (w : World) (a : Option Addr) (L : List ItmA) : Prop :=
  L = [] ∨ ∃ b o, a = some ⟨b, o, none⟩ ∧ b < w.heap.size ∧ ∀ i (h : i < L.length), (∀ j v, (L[i].cells)[j]? = some v → w.cell? ⟨b, o + i * 3 + j, none⟩ = some v) ∧ IntsAt w L[i].a L[i].b.l ∧ L[i].b.l.length ≤ 1048576
theorem ItmsAt.at {w : World} {a : Option Addr} {L : List ItmA} (h : ItmsAt w a L) {k : Nat} (hk : k < L.length) :
    ∃ b o, a = some ⟨b, o, none⟩ ∧ b < w.heap.size ∧ ∀ i (h : i < L.length), (∀ j v, (L[i].cells)[j]? = some v → w.cell? ⟨b, o + i * 3 + j, none⟩ = some v) ∧ IntsAt w L[i].a L[i].b.l ∧ L[i].b.l.length ≤ 1048576 := by
  rcases h with rfl | h
  · simp at hk
  · exact h
theorem ItmsAt.below {w w' : World} {a : Option Addr} {L : List ItmA} (h : ItmsAt w a L) (hb : Below w.heap.size w w') : ItmsAt w' a L := by
  rcases h with rfl | ⟨b, o, rfl, hlt, hc⟩
  · exact .inl rfl
  · exact .inr ⟨b, o, rfl, Nat.lt_of_lt_of_le hlt hb.size, fun i hi => ⟨fun j v hv => (hb.cell (p := ⟨b, o + i * 3 + j, none⟩) hlt).trans ((hc i hi).1 j v hv), (hc i hi).2.1.below hb, (hc i hi).2.2⟩⟩
def ItmsR (w : World) (a : Option Addr) (L : List ItmA) : Prop :=
  L = [] ∨ ∃ b o, a = some ⟨b, o, none⟩ ∧ b < w.heap.size ∧ ∀ i (h : i < L.length), (∀ j v, (L[i].cells)[j]? = some v → w.cell? ⟨b, o + i * 3 + j, none⟩ = some v) ∧ IntsAt w L[i].a L[i].b.l ∧ L[i].b.l.length ≤ maxLen ∧ L[i].b.p.size ≤ maxLen
theorem ItmsR.at {w : World} {a : Option Addr} {L : List ItmA} (h : ItmsR w a L) {k : Nat} (hk : k < L.length) :
    ∃ b o, a = some ⟨b, o, none⟩ ∧ b < w.heap.size ∧ ∀ i (h : i < L.length), (∀ j v, (L[i].cells)[j]? = some v → w.cell? ⟨b, o + i * 3 + j, none⟩ = some v) ∧ IntsAt w L[i].a L[i].b.l ∧ L[i].b.l.length ≤ maxLen ∧ L[i].b.p.size ≤ maxLen := by
  rcases h with rfl | h
  · simp at hk
  · exact h
theorem ItmsR.below {w w' : World} {a : Option Addr} {L : List ItmA} (h : ItmsR w a L) (hb : Below w.heap.size w w') : ItmsR w' a L := by
  rcases h with rfl | ⟨b, o, rfl, hlt, hc⟩
  · exact .inl rfl
  · exact .inr ⟨b, o, rfl, Nat.lt_of_lt_of_le hlt hb.size, fun i hi => ⟨fun j v hv => (hb.cell (p := ⟨b, o + i * 3 + j, none⟩) hlt).trans ((hc i hi).1 j v hv), (hc i hi).2.1.below hb, (hc i hi).2.2⟩⟩
theorem ItmsR.toAt {w : World} {a : Option Addr} {L : List ItmA} (h : ItmsR w a L) (hs : ∀ x ∈ L, x.b.l.length ≤ 1048576) : ItmsAt w a L := by
  rcases h with rfl | ⟨b, o, rfl, hb, hc⟩
  · exact .inl rfl
  · exact .inr ⟨b, o, rfl, hb, fun i hi => ⟨(hc i hi).1, (hc i hi).2.1, hs _ (List.getElem_mem hi)⟩⟩
def sameItm (x y : Itm) : Bool := (x.p.toList == y.p.toList) && (x.d == y.d) && decide (x.l = y.l)
def sameItms : List ItmA → List ItmA → Bool
  | [], [] => true
  | x :: L, y :: M => sameItm x.b y.b && sameItms L M
  | _, _ => false
theorem sameItms_len : ∀ {L M : List ItmA}, L.length ≠ M.length → sameItms L M = false
  | [], [], h => by simp at h
  | [], _ :: _, _ => rfl
  | _ :: _, [], _ => rfl
  | x :: L, y :: M, h => by
    rw [sameItms, sameItms_len (L := L) (M := M) (by simpa using h)]
    simp
theorem sameItms_drop {L M : List ItmA} {k : Nat} (h1 : k < L.length) (h2 : k < M.length) : sameItms (L.drop k) (M.drop k) = (sameItm L[k].b M[k].b && sameItms (L.drop (k + 1)) (M.drop (k + 1))) := by
  rw [List.drop_eq_getElem_cons h1, List.drop_eq_getElem_cons h2, sameItms]
theorem sameItms_map : ∀ {L L' M M' : List ItmA}, L.map ItmA.b = L'.map ItmA.b → M.map ItmA.b = M'.map ItmA.b → sameItms L M = sameItms L' M'
  | [], [], [], [], _, _ => rfl
  | [], [], _ :: _, _ :: _, _, _ => rfl
  | _ :: _, _ :: _, [], [], _, _ => rfl
  | x :: L, x' :: L', y :: M, y' :: M', h1, h2 => by
    simp only [List.map_cons, List.cons.injEq] at h1 h2
    rw [sameItms, sameItms, h1.1, h2.1, sameItms_map h1.2 h2.2]
end Go.Proofs.YtcmekhpphgkglaaDoor
