/-
  A device whose rows are nobody else's; one that can be read.
-/
import Derived.Test.YtiopofemelninaaDoorRowMath
import Derived.Test.YtiopofemelninaaDoorDevMath
namespace Go.Proofs.YtiopofemelninaaDoor
open Go.RowKit

end Go.Proofs.YtiopofemelninaaDoor
