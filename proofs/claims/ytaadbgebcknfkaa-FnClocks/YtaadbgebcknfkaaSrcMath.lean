/-
  The source of the laws' draws, as the walks see it (no Go in sight): a block with the bytes' slice and how far it has been read.
-/
import Derived.Test.YtaadbgebcknfkaaBase
import Derived.ProofKit
namespace Go.Proofs.Ytaadbgebcknfkaa
open Go.RowKit

/-- The bytes that a code has: n numbers 0 to 255 at a. -/
def CodeAt (w : World) (a : Option Addr) (n : Nat) : Prop :=
  n = 0 ∨ ∃ b o, a = some ⟨b, o, none⟩ ∧ b < w.heap.size ∧ ∀ i, i < n → ∃ z : Int, 0 ≤ z ∧ z ≤ 255 ∧ w.cell? ⟨b, o + i, none⟩ = some (.int .u8 z)

/-- A source: block s, of type t; its code's blocks are older. -/
def SrcAt (w : World) (t : TypeId) (s : Nat) (a : Option Addr) (n c at' : Nat) : Prop :=
  w.heap[s]? = some (.cells #[.slice a n c, .int .i64 at'] t (0, 0)) ∧ n ≤ 2000000 ∧
  (n = 0 ∨ ∃ b o, a = some ⟨b, o, none⟩ ∧ b < s ∧ ∀ i, i < n → ∃ z : Int, 0 ≤ z ∧ z ≤ 255 ∧ w.cell? ⟨b, o + i, none⟩ = some (.int .u8 z))

/-- Nothing but block s has turned, and there are no new blocks. -/
structure Only (s : Nat) (w w' : World) : Prop where
  os : w'.os = w.os
  tape : w'.tape = w.tape
  output : w'.output = w.output
  size : w'.heap.size = w.heap.size
  block : ∀ k, k ≠ s → w'.heap[k]? = w.heap[k]?

theorem Only.cell {s : Nat} {w w' : World} (h : Only s w w') {b : Nat} (hb : b ≠ s) (o : Nat) : w'.cell? ⟨b, o, none⟩ = w.cell? ⟨b, o, none⟩ :=
  World.cell?_of_block (a := ⟨b, o, none⟩) (h.block b hb)
theorem Only.frozen {s : Nat} {w w' : World} (h : Only s w w') {b : Nat} (hb : b ≠ s) (o : Nat) : w'.frozen? ⟨b, o, none⟩ = w.frozen? ⟨b, o, none⟩ :=
  World.frozen?_of_block (a := ⟨b, o, none⟩) (h.block b hb)
theorem Only.below {s B : Nat} {w w' : World} (h : Only s w w') (hB : B ≤ s) : Below B w w' :=
  ⟨h.os, h.tape, h.output, by rw [h.size]; exact Nat.le_refl _, fun k hk => h.block k (by omega)⟩
theorem Only.refl (s : Nat) (w : World) : Only s w w := ⟨rfl, rfl, rfl, rfl, fun _ _ => rfl⟩
theorem Only.trans {s : Nat} {a b c : World} (h : Only s a b) (k : Only s b c) : Only s a c :=
  ⟨k.os.trans h.os, k.tape.trans h.tape, k.output.trans h.output, k.size.trans h.size, fun i hi => (k.block i hi).trans (h.block i hi)⟩

theorem SrcAt.lt {w : World} {t : TypeId} {s : Nat} {a : Option Addr} {n c p : Nat} (h : SrcAt w t s a n c p) : s < w.heap.size :=
  (Array.getElem?_eq_some_iff.1 h.1).1

/-- A source outlives whatever leaves the blocks up to its own alone. -/
theorem SrcAt.keep {w w' : World} {t : TypeId} {s : Nat} {a : Option Addr} {n c p : Nat} (h : SrcAt w t s a n c p) (hb : ∀ k, k ≤ s → w'.heap[k]? = w.heap[k]?) : SrcAt w' t s a n c p := by
  obtain ⟨h1, hn, h2⟩ := h
  refine ⟨(hb s (Nat.le_refl _)).trans h1, hn, ?_⟩
  rcases h2 with rfl | ⟨b, o, rfl, hlt, hc⟩
  · exact .inl rfl
  · refine .inr ⟨b, o, rfl, hlt, fun i hi => ?_⟩
    obtain ⟨z, z0, z1, hz⟩ := hc i hi
    exact ⟨z, z0, z1, (World.cell?_of_block (a := ⟨b, o + i, none⟩) (hb b (by omega))).trans hz⟩

theorem SrcAt.alloc {w : World} {t : TypeId} {s : Nat} {a : Option Addr} {n c p : Nat} (h : SrcAt w t s a n c p) (o : Obj) : SrcAt (w.alloc o) t s a n c p :=
  h.keep fun k hk => Below.heap_alloc w o k (by have := h.lt; omega)

theorem SrcAt.below {w w' : World} {t : TypeId} {s : Nat} {a : Option Addr} {n c p : Nat} (h : SrcAt w t s a n c p) (hb : Below w.heap.size w w') : SrcAt w' t s a n c p :=
  h.keep fun k hk => hb.block k (by have := h.lt; omega)

/-- What a read leaves: the source one further, nothing else turned. -/
theorem SrcAt.step {w : World} {t : TypeId} {s : Nat} {a : Option Addr} {n c p : Nat} (h : SrcAt w t s a n c p) (q : Nat) (m : Nat) :
    SrcAt ((w.setCell ⟨s, 1, none⟩ (.int .i64 q)).drewN m) t s a n c q ∧ Only s w ((w.setCell ⟨s, 1, none⟩ (.int .i64 q)).drewN m) := by
  obtain ⟨h1, hn, h2⟩ := h
  have hlt : s < w.heap.size := (Array.getElem?_eq_some_iff.1 h1).1
  have ho : Only s w ((w.setCell ⟨s, 1, none⟩ (.int .i64 q)).drewN m) :=
    ⟨rfl, rfl, rfl, by show (w.heap.modify _ _).size = _; simp, fun k hk => Below.heap_setCell w _ _ k hk⟩
  refine ⟨⟨?_, hn, ?_⟩, ho⟩
  · show (w.setCell ⟨s, 1, none⟩ (.int .i64 q)).heap[s]? = _
    rw [heap_setCell_same w s 1 _ t _ h1]
    rfl
  · rcases h2 with rfl | ⟨b, o, rfl, hb, hc⟩
    · exact .inl rfl
    · refine .inr ⟨b, o, rfl, hb, fun i hi => ?_⟩
      obtain ⟨z, z0, z1, hz⟩ := hc i hi
      exact ⟨z, z0, z1, (ho.cell (by omega) _).trans hz⟩

end Go.Proofs.Ytaadbgebcknfkaa
