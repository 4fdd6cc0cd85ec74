/-
  A device whose rows are nobody else's; one that can be read.
-/
import Derived.Test.YtcmekhpphgkglaaGreatRowMath
import Derived.Test.YtcmekhpphgkglaaGreatDevMath
namespace Go.Proofs.YtcmekhpphgkglaaGreat
open Go.RowKit

end Go.Proofs.YtcmekhpphgkglaaGreat
