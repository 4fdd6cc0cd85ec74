/-
  The laws' draws of nodes that may be wrong, and of epochs.
-/
import Derived.Test.YtaadbgebcknfkaaDraw3Node
namespace Go.Proofs.Ytaadbgebcknfkaa
open Go.RowKit
set_option linter.unusedVariables false

theorem offerI (P : Int → Prop) (l : List Int) (h : ∀ v ∈ l, P v) : ∀ x, x ∈ nums l → ∃ v : Int, P v ∧ x = .int .i64 v := by
  intro x hx
  obtain ⟨v, hv, rfl⟩ := List.mem_map.1 hx
  exact ⟨v, h v hv, rfl⟩
/-- Out of all but block s, from below. -/
theorem Out.belowS {s B : Nat} {w0 w w' : World} (ho : Out (fun q => q = s) w w') (h : Below B w0 w) (hB : B ≤ w0.heap.size) (hs : B ≤ s) : Below B w0 w' := ho.below h hB (fun q hq e => by omega)

end Go.Proofs.Ytaadbgebcknfkaa
