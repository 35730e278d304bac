/-
  The model's OpFault, and the walk of the law. No conditions.
-/
import Derived.Test.YtaemegkdmbhpnaaOp7
namespace Go.Proofs.Ytaemegkdmbhpnaa
open Go.RowKit
end Go.Proofs.Ytaemegkdmbhpnaa
