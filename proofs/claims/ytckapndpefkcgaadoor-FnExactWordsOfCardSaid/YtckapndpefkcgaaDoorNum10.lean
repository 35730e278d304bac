/-
  A word's number, on both sides; NumberOf. No conditions beyond that the word is not longer than a string can be, and that errors.errorType lies as the library lays it.
-/
import Derived.Test.YtckapndpefkcgaaDoorAs10
set_option maxHeartbeats 1000000
namespace Go.Proofs.YtckapndpefkcgaaDoor
open Go.RowKit
set_option maxRecDepth 100000

def bt (s : ByteArray) (k : Nat) : Int := if h : k < s.size then ((s[k]'h).toNat : Int) else 0
theorem bt_eq (s : ByteArray) (k : Nat) (h : k < s.size) : ((s[k]'h).toNat : Int) = bt s k := by
  unfold bt
  rw [dif_pos h]
end Go.Proofs.YtckapndpefkcgaaDoor
