/-
  A device whose rows are nobody else's; one that can be read.
-/
import Derived.Test.YtaadbgebcknfkaaRowMath
import Derived.Test.YtaadbgebcknfkaaDevMath
namespace Go.Proofs.Ytaadbgebcknfkaa
open Go.RowKit

/-- The device D lies in rows from block base on, no two of which are one. -/
structure OwnDev (w : World) (base : Nat) (v1 v2 v3 : Value) (D : Dev) : Prop where
  o1 : w.ownsRow base 2 1 v1 D.words.length (nums D.words)
  o2 : w.ownsRow base 192 2 v2 D.flights.length (prs D.flights)
  o3 : w.ownsRow base 192 2 v3 D.over.length (prs D.over)
  n12 : ∀ q, v1.ownBlock = some q → v2.ownBlock ≠ some q
  n13 : ∀ q, v1.ownBlock = some q → v3.ownBlock ≠ some q
  n23 : ∀ q, v2.ownBlock = some q → v3.ownBlock ≠ some q

/-- The device D can be read there. -/
structure DevAt (w : World) (a1 a2 a3 : Option Addr) (D : Dev) : Prop where
  r1 : IntsAt w a1 D.words
  r2 : PairsAt w a2 D.flights
  r3 : PairsAt w a3 D.over

def Own1 (v1 v2 v3 : Value) (q : Nat) : Prop := v1.ownBlock = some q ∨ v2.ownBlock = some q ∨ v3.ownBlock = some q

theorem DevAt.below {w w' : World} {a1 a2 a3 : Option Addr} {D : Dev} (h : DevAt w a1 a2 a3 D) (hb : Below w.heap.size w w') : DevAt w' a1 a2 a3 D := ⟨h.r1.below hb, h.r2.below hb, h.r3.below hb⟩
theorem OwnDev.stay {w w' : World} {base : Nat} {v1 v2 v3 : Value} {D : Dev} (h : OwnDev w base v1 v2 v3 D) (hk : ∀ q, Own1 v1 v2 v3 q → q < w.heap.size → w'.heap[q]? = w.heap[q]?) : OwnDev w' base v1 v2 v3 D :=
  ⟨own_stay h.o1 fun q hq => hk q (.inl hq), own_stay h.o2 fun q hq => hk q (.inr (.inl hq)), own_stay h.o3 fun q hq => hk q (.inr (.inr hq)), h.n12, h.n13, h.n23⟩
theorem OwnDev.below {w w' : World} {base : Nat} {v1 v2 v3 : Value} {D : Dev} (h : OwnDev w base v1 v2 v3 D) (hb : Below w.heap.size w w') : OwnDev w' base v1 v2 v3 D := h.stay fun q _ hq => hb.block q hq
theorem OwnDev.out {F : Nat → Prop} {w w' : World} {base : Nat} {v1 v2 v3 : Value} {D : Dev} (h : OwnDev w base v1 v2 v3 D) (ho : Out F w w') (hF : ∀ q, Own1 v1 v2 v3 q → ¬ F q) : OwnDev w' base v1 v2 v3 D := h.stay fun q hq hl => ho.block q hl (hF q hq)
theorem OwnDev.lt {w : World} {base : Nat} {v1 v2 v3 : Value} {D : Dev} (h : OwnDev w base v1 v2 v3 D) {q : Nat} (hq : Own1 v1 v2 v3 q) : base ≤ q ∧ q < w.heap.size := by
  rcases hq with hq | hq | hq
  · exact h.o1.lt q hq
  · exact h.o2.lt q hq
  · exact h.o3.lt q hq
theorem OwnDev.base {w : World} {base base' : Nat} {v1 v2 v3 : Value} {D : Dev} (h : OwnDev w base v1 v2 v3 D) (hb : base' ≤ base) : OwnDev w base' v1 v2 v3 D :=
  ⟨own_base h.o1 (fun q hq => Nat.le_trans hb (h.o1.lt q hq).1), own_base h.o2 (fun q hq => Nat.le_trans hb (h.o2.lt q hq).1), own_base h.o3 (fun q hq => Nat.le_trans hb (h.o3.lt q hq).1), h.n12, h.n13, h.n23⟩
theorem OwnDev.form {w : World} {base : Nat} {v1 v2 v3 : Value} {D : Dev} (h : OwnDev w base v1 v2 v3 D) :
    ∃ a1 c1 a2 c2 a3 c3, v1 = .slice a1 D.words.length c1 ∧ v2 = .slice a2 D.flights.length c2 ∧ v3 = .slice a3 D.over.length c3 ∧ DevAt w a1 a2 a3 D ∧ D.words.length ≤ c1 ∧ D.flights.length ≤ c2 ∧ D.over.length ≤ c3 := by
  obtain ⟨a1, c1, e1, -, r1, l1, -⟩ := intsAt_own h.o1
  obtain ⟨a2, c2, e2, -, r2, l2, -⟩ := pairsAt_own h.o2
  obtain ⟨a3, c3, e3, -, r3, l3, -⟩ := pairsAt_own h.o3
  exact ⟨a1, c1, a2, c2, a3, c3, e1, e2, e3, ⟨r1, r2, r3⟩, l1, l2, l3⟩
theorem OwnDev.reads {w : World} {base : Nat} {a1 a2 a3 : Option Addr} {n1 n2 n3 c1 c2 c3 : Nat} {D : Dev} (h : OwnDev w base (.slice a1 n1 c1) (.slice a2 n2 c2) (.slice a3 n3 c3) D) : DevAt w a1 a2 a3 D := by
  obtain ⟨b1, d1, b2, d2, b3, d3, e1, e2, e3, r, -⟩ := h.form
  cases e1; cases e2; cases e3
  exact r

end Go.Proofs.Ytaadbgebcknfkaa
