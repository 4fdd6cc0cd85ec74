/-
  What only reads and draws: nothing but the order that is drawn has turned.
-/
import Derived.Test.YtiopofemelninaaGreatRowMath
import Derived.BigQuiet
import Derived.Deep.QuietTactic
namespace Go.Proofs.YtiopofemelninaaGreat
open Go.RowKit

/-- Nothing but the order that is drawn has turned. -/
def Drawn (w w' : World) : Prop := ∃ m, w' = w.drewN m
theorem Drawn.refl (w : World) : Drawn w w := ⟨0, rfl⟩
theorem Drawn.drewN {a w : World} (h : Drawn a w) (n : Nat) : Drawn a (w.drewN n) := by
  obtain ⟨m, rfl⟩ := h
  exact ⟨m + n, by simp [World.drewN, Nat.add_assoc]⟩
theorem Drawn.below {B : Nat} {w w' : World} (h : Drawn w w') : Below B w w' := by
  obtain ⟨m, rfl⟩ := h
  exact below_drewN (Below.refl _ _) _
end Go.Proofs.YtiopofemelninaaGreat
