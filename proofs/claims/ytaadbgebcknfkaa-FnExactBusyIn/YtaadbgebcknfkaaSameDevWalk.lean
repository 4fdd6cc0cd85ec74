/-
  What spec.SameDevices and impl.SameDevices answer.
-/
import Derived.Test.YtaadbgebcknfkaaEqB
import Derived.Test.YtaadbgebcknfkaaOwnDev
namespace Go.Proofs.Ytaadbgebcknfkaa
open Go.RowKit

def sameDev (D E : Dev) : Bool := decide (D.words = E.words) && decide (D.flights = E.flights) && decide (D.over = E.over)



end Go.Proofs.Ytaadbgebcknfkaa
