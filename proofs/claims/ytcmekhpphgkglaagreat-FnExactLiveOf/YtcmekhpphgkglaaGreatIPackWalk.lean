/-
  What impl.PackGone, PackNode and PackData answer.
-/
import Derived.Test.YtcmekhpphgkglaaGreatPackPiece
namespace Go.Proofs.YtcmekhpphgkglaaGreat
open Go.RowKit

end Go.Proofs.YtcmekhpphgkglaaGreat
