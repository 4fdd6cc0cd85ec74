/-
  Small plain helpers for all walks: facts kept from the walk, ends of walks, old cells behind a call that only makes memory.
-/
import Derived.WalkKit
import Derived.WalkSmall
import Derived.WalkLawsBesides
namespace Go.Proofs.YtiopofemelninaaDoor
open Go.RowKit

theorem hide {p : Prop} (h : p) : Hid p := h
theorem unhide {p : Prop} (h : Hid p) : p := h
theorem len_data (s : ByteArray) : s.data.toList.length = s.size := by rw [Array.length_toList]; rfl
theorem ret_bool {a b : Bool} (h : a = b) : Ending.returned (.bool a) = .returned (.bool b) := by rw [h]
theorem ret_int {k : IntKind} {a b : Int} (h : a = b) : Ending.returned (.int k a) = .returned (.int k b) := by rw [h]
theorem bool_neq_self (b : Bool) : (b != b) = false := by cases b <;> rfl
theorem int_neq_self (b : Int) : (b != b) = false := by simp

/-- Behind a call that only makes memory, old cells and old marks read as before. -/
theorem bcell {W w1 : World} (hb : Below W.heap.size W w1) : (∀ b o, b < W.heap.size → w1.cell? ⟨b, o, none⟩ = W.cell? ⟨b, o, none⟩) ∧ (∀ b o, b < W.heap.size → w1.frozen? ⟨b, o, none⟩ = W.frozen? ⟨b, o, none⟩) :=
  ⟨fun b o h => hb.cell (p := ⟨b, o, none⟩) h, fun b o h => hb.frozen (p := ⟨b, o, none⟩) h⟩

/-- At most a string's iterator is new. -/
theorem below_iter {w w' : World} {s : ByteArray} (h : w' = w ∨ ∃ pos, w' = w.iter s pos) : Below w.heap.size w w' := by
  rcases h with rfl | ⟨pos, rfl⟩
  · exact Below.refl _ _
  · exact (Below.refl _ _).alloc (Nat.le_refl _) _

theorem below_step {B : Nat} {a b c : World} (h : Below B a b) (k : Below b.heap.size b c) (hB : B ≤ b.heap.size) : Below B a c := h.trans (k.mono hB)

end Go.Proofs.YtiopofemelninaaDoor
