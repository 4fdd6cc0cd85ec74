/-
  Lists of notes in memory.
-/
import Derived.Test.YtiopofemelninaaDoorRowMath
import Derived.Test.YtiopofemelninaaDoorStrsMath
namespace Go.Proofs.YtiopofemelninaaDoor
open Go.RowKit
set_option linter.unusedVariables false

structure Nte where
  k : Int
  wo : Int
  e : Int
  ok : Int
  op : ByteArray
  ot : ByteArray
  od : Bool
  oi : Int
  on : List Int
  rc : Int
  rn : List Int
  rs : List ByteArray
structure NteA where
  b : Nte
  a1 : Option Addr
  c1 : Nat
  a2 : Option Addr
  c2 : Nat
  a3 : Option Addr
  c3 : Nat
def NteA.cells (x : NteA) : List Value := [.int .i64 x.b.k, .int .i64 x.b.wo, .int .i64 x.b.e, .int .i64 x.b.ok, .string x.b.op, .string x.b.ot, .bool x.b.od, .int .i64 x.b.oi, .slice x.a1 x.b.on.length x.c1, .int .i64 x.b.rc, .slice x.a2 x.b.rn.length x.c2, .slice x.a3 x.b.rs.length x.c3]
def NteA.side (w : World) (x : NteA) : Prop := IntsAt w x.a1 x.b.on ∧ IntsAt w x.a2 x.b.rn ∧ StrsAt w x.a3 x.b.rs
theorem StrsAt.keep {w w' : World} {a : Option Addr} {l : List ByteArray} (h : StrsAt w a l) (hz : w.heap.size ≤ w'.heap.size) (hk : ∀ x, a = some x → x.block < w.heap.size → w'.heap[x.block]? = w.heap[x.block]?) : StrsAt w' a l := by
  rcases h with rfl | ⟨b, o, rfl, hb, hc⟩
  · exact .inl rfl
  · exact .inr ⟨b, o, rfl, Nat.lt_of_lt_of_le hb hz, fun i hi => (World.cell?_of_block (a := ⟨b, o + i, none⟩) (hk ⟨b, o, none⟩ rfl hb)).trans (hc i hi)⟩
theorem Out.strs {F : Nat → Prop} {w w' : World} (ho : Out F w w') {a : Option Addr} {l : List ByteArray} (h : StrsAt w a l) (hF : ∀ x, a = some x → ¬ F x.block) : StrsAt w' a l := h.keep ho.size fun x hx hl => ho.block _ hl (hF x hx)
theorem NteA.side.below {w w' : World} {x : NteA} (h : x.side w) (hb : Below w.heap.size w w') : x.side w' := ⟨h.1.below hb, h.2.1.below hb, h.2.2.below hb⟩
theorem NteA.side.keepB {B : Nat} {w w' : World} {x : NteA} (h : x.side w) (hb : Below B w w') (hB : B = w.heap.size) : x.side w' := by subst hB; exact h.below hb
def NteA.small (x : NteA) : Prop := x.b.on.length ≤ 1048576 ∧ x.b.rn.length ≤ 1048576 ∧ x.b.rs.length ≤ 1048576
def NteA.mid (x : NteA) : Prop := x.b.on.length ≤ maxLen ∧ x.b.rn.length ≤ maxLen ∧ x.b.rs.length ≤ maxLen ∧ x.b.op.size ≤ maxLen ∧ x.b.ot.size ≤ maxLen ∧ ∀ s ∈ x.b.rs, s.size ≤ maxLen
def NtesIn (S : NteA → Prop) (w : World) (a : Option Addr) (L : List NteA) : Prop :=
  L = [] ∨ ∃ b o, a = some ⟨b, o, none⟩ ∧ b < w.heap.size ∧ ∀ i (h : i < L.length), (∀ j v, (L[i].cells)[j]? = some v → w.cell? ⟨b, o + i * 12 + j, none⟩ = some v) ∧ L[i].side w ∧ S L[i]
theorem NtesIn.at {S : NteA → Prop} {w : World} {a : Option Addr} {L : List NteA} (h : NtesIn S w a L) {k : Nat} (hk : k < L.length) :
    ∃ b o, a = some ⟨b, o, none⟩ ∧ b < w.heap.size ∧ ∀ i (h : i < L.length), (∀ j v, (L[i].cells)[j]? = some v → w.cell? ⟨b, o + i * 12 + j, none⟩ = some v) ∧ L[i].side w ∧ S L[i] := by
  rcases h with rfl | h
  · simp at hk
  · exact h
theorem NtesIn.below {S : NteA → Prop} {w w' : World} {a : Option Addr} {L : List NteA} (h : NtesIn S w a L) (hb : Below w.heap.size w w') : NtesIn S w' a L := by
  rcases h with rfl | ⟨b, o, rfl, hlt, hc⟩
  · exact .inl rfl
  · exact .inr ⟨b, o, rfl, Nat.lt_of_lt_of_le hlt hb.size, fun i hi => ⟨fun j v hv => (hb.cell (p := ⟨b, o + i * 12 + j, none⟩) hlt).trans ((hc i hi).1 j v hv), (hc i hi).2.1.below hb, (hc i hi).2.2⟩⟩
abbrev NtesAt := NtesIn NteA.small
abbrev NtesR := NtesIn NteA.mid
theorem NtesIn.toAt {w : World} {a : Option Addr} {L : List NteA} (h : NtesR w a L) (hs : ∀ x ∈ L, x.small) : NtesAt w a L := by
  rcases h with rfl | ⟨b, o, rfl, hb, hc⟩
  · exact .inl rfl
  · exact .inr ⟨b, o, rfl, hb, fun i hi => ⟨(hc i hi).1, (hc i hi).2.1, hs _ (List.getElem_mem hi)⟩⟩
def sameO (k k' : Int) (p p' t t' : ByteArray) (d d' : Bool) (i i' : Int) (l l' : List Int) : Bool := (k == k') && (p.toList == p'.toList) && (t.toList == t'.toList) && (d == d') && (i == i') && decide (l = l')
def sameNte (x y : Nte) : Bool := (x.k == y.k) && (x.wo == y.wo) && (x.e == y.e) && sameO x.ok y.ok x.op y.op x.ot y.ot x.od y.od x.oi y.oi x.on y.on && (x.rc == y.rc) && decide (x.rn = y.rn) && decide (x.rs = y.rs)
def sameNb : List Nte → List Nte → Bool
  | [], [] => true
  | x :: L, y :: M => sameNte x y && sameNb L M
  | _, _ => false
theorem sameNb_len : ∀ {L M : List Nte}, L.length ≠ M.length → sameNb L M = false
  | [], [], h => by simp at h
  | [], _ :: _, _ => rfl
  | _ :: _, [], _ => rfl
  | x :: L, y :: M, h => by
    rw [sameNb, sameNb_len (L := L) (M := M) (by simpa using h), Bool.and_false]
def sameNtes (L M : List NteA) : Bool := sameNb (L.map NteA.b) (M.map NteA.b)
theorem sameNtes_cons (x y : NteA) (L M : List NteA) : sameNtes (x :: L) (y :: M) = (sameNte x.b y.b && sameNtes L M) := by
  rw [sameNtes, List.map_cons, List.map_cons, sameNb, sameNtes]
theorem sameNtes_len {L M : List NteA} (h : L.length ≠ M.length) : sameNtes L M = false := sameNb_len (by simpa using h)
theorem sameNtes_drop {L M : List NteA} {k : Nat} (h1 : k < L.length) (h2 : k < M.length) : sameNtes (L.drop k) (M.drop k) = (sameNte L[k].b M[k].b && sameNtes (L.drop (k + 1)) (M.drop (k + 1))) := by
  rw [List.drop_eq_getElem_cons h1, List.drop_eq_getElem_cons h2]
  exact sameNtes_cons _ _ _ _
theorem sameNtes_map {L L' M M' : List NteA} (h1 : L.map NteA.b = L'.map NteA.b) (h2 : M.map NteA.b = M'.map NteA.b) : sameNtes L M = sameNtes L' M' := by
  rw [sameNtes, sameNtes, h1, h2]
end Go.Proofs.YtiopofemelninaaDoor
