/-
  The laws' own measure of notes, which tells the sizes of their paths too.
-/
import Derived.Test.YtiopofemelninaaDoorNoteSz
namespace Go.Proofs.YtiopofemelninaaDoor
open Go.RowKit
set_option linter.unusedVariables false

def NteA.full (x : NteA) : Prop := x.small ∧ x.b.op.size ≤ 1048576 ∧ x.b.ot.size ≤ 1048576
end Go.Proofs.YtiopofemelninaaDoor
