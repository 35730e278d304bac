/-
  Cutting a slice of numbers at a number and behind its first element. No conditions.
-/
import Derived.Test.YtckapndpefkcgaaInts
set_option maxHeartbeats 1000000
namespace Go.Proofs.Ytckapndpefkcgaa
open Go.RowKit
set_option maxRecDepth 100000

theorem Try.elem_sl : Try.prog.underlying 46 = some (.slice (Try.prog.elem 46)) := by kernel_rfl
theorem Try.el_sl : Try.prog.elem 46 = 2 := by kernel_rfl
end Go.Proofs.Ytckapndpefkcgaa
