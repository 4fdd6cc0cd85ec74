/-
  A device whose rows are nobody else's; one that can be read.
-/
import Derived.Test.YtmkahaddnbhnaaaRowMath
import Derived.Test.YtmkahaddnbhnaaaDevMath
namespace Go.Proofs.Ytmkahaddnbhnaaa
open Go.RowKit

end Go.Proofs.Ytmkahaddnbhnaaa
