/-
  A device whose rows are nobody else's; one that can be read.
-/
import Derived.Test.YtcccpifecojijaaDoorRowMath
import Derived.Test.YtcccpifecojijaaDoorDevMath
namespace Go.Proofs.YtcccpifecojijaaDoor
open Go.RowKit

end Go.Proofs.YtcccpifecojijaaDoor
