/-
  The model's CallFault and EventFault, for every call and event. No conditions.
-/
import Derived.Test.YtaemegkdmbhpnaaMath3
import Derived.Test.YtaemegkdmbhpnaaAcc2
namespace Go.Proofs.Ytaemegkdmbhpnaa
open Go.RowKit

end Go.Proofs.Ytaemegkdmbhpnaa
