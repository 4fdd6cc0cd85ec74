/-
  What the laws' own sizes, copies and comparisons of ops answer.
-/
import Derived.Test.YtiopofemelninaaDoorRowMath
import Derived.Test.YtiopofemelninaaDoorDevSz
import Derived.Test.YtiopofemelninaaDoorDevEq
import Derived.Test.YtiopofemelninaaDoorResWalk
import Derived.Test.YtiopofemelninaaDoorWideBox
namespace Go.Proofs.YtiopofemelninaaDoor
open Go.RowKit
set_option linter.unusedVariables false

end Go.Proofs.YtiopofemelninaaDoor
