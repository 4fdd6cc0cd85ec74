/-
  What impl.PackGone, PackNode and PackData answer.
-/
import Derived.Test.YtiopofemelninaaGreatPackPiece
namespace Go.Proofs.YtiopofemelninaaGreat
open Go.RowKit

end Go.Proofs.YtiopofemelninaaGreat
