/-
  A device whose rows are nobody else's; one that can be read.
-/
import Derived.Test.YtcmekhpphgkglaaDoorRowMath
import Derived.Test.YtcmekhpphgkglaaDoorDevMath
namespace Go.Proofs.YtcmekhpphgkglaaDoor
open Go.RowKit

end Go.Proofs.YtcmekhpphgkglaaDoor
