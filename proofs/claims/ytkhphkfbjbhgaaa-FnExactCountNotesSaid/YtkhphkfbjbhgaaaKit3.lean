/-
  The laws' helpers on slices of accounts: copy, compare, mark, look again: what each does, for every slice that can be read. No conditions beyond that the slices can be read.
-/
import Derived.Test.YtkhphkfbjbhgaaaChecked
import Derived.Test.YtkhphkfbjbhgaaaBase
import Derived.Test.YtkhphkfbjbhgaaaBase3
import Derived.Test.YtkhphkfbjbhgaaaAcc2

-- Bools
namespace Go.Proofs.Ytkhphkfbjbhgaaa
open Go.RowKit

/-- a count's mark in a bool -/
def m3 (m : Nat) : Bool := decide (((m : Nat) : Int).tmod 3 = 0)
theorem m3_eq (m : Nat) : m3 m = decide (((m : Nat) : Int).tmod 3 = 0) := rfl
theorem Try.info_bool : (Try.prog.info? 4).map (fun i => (i.zero, i.size, i.bytes)) = some (some (.bool false), 1, 1) := by kernel_rfl

end Go.Proofs.Ytkhphkfbjbhgaaa

-- Kit3
namespace Go.Proofs.Ytkhphkfbjbhgaaa
open Go.RowKit

end Go.Proofs.Ytkhphkfbjbhgaaa
