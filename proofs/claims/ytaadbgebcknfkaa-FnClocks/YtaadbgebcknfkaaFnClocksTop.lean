/-
  laws.FnClocks, at every code.
-/
import Derived.Test.YtaadbgebcknfkaaFnClocksWalk
import Derived.Test.YtaadbgebcknfkaaCodeRow
namespace Go.Proofs.Ytaadbgebcknfkaa.fnClocks
open Go.RowKit
/-- What the walk is told of a slice of integers that came in. -/
def IsRow (k : IntKind) (w : World) (a : Option Addr) (len cap : Nat) (zs : List Int) : Prop :=
  (a = none ∧ len = 0 ∧ cap = 0 ∧ zs = []) ∨
  ∃ x, a = some x ∧ len ≤ cap ∧ cap ≤ maxLen ∧ zs.length = cap ∧ (∀ i, i < zs.length → w.cell? (x.add i) = some (.int k (zs.getD i 0))) ∧ ∀ n ∈ zs, (Lit.int k n).wf = true

theorem walk (a : Option Addr) (len cap : Nat) (zs : List Int) (w : World) (w0 : IsRow .u8 w a len cap zs) :
    Calls Try.prog 4 #[.slice a len cap] w fun r w' => r = .returned (.bool true) ∧ Below w.heap.size w w' := by
  by_cases hn : len ≤ 1048576
  · exact yes a len cap w (codeAt_row w0) hn
  · exact no a len cap w (by omega)
end Go.Proofs.Ytaadbgebcknfkaa.fnClocks
