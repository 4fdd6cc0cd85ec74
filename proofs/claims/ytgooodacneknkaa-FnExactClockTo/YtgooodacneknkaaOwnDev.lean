/-
  A device whose rows are nobody else's; one that can be read.
-/
import Derived.Test.YtgooodacneknkaaRowMath
import Derived.Test.YtgooodacneknkaaDevMath
namespace Go.Proofs.Ytgooodacneknkaa
open Go.RowKit

end Go.Proofs.Ytgooodacneknkaa
