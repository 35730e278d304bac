/-
  The laws' helpers on entries and on slices of entries: copy, compare, mark, look again: what each does, for every slice that can be read. No conditions beyond that the slices can be read.
-/
import Derived.Test.YtckapndpefkcgaaChecked
import Derived.Test.YtckapndpefkcgaaBase3
set_option maxHeartbeats 1000000
namespace Go.Proofs.Ytckapndpefkcgaa
open Go.RowKit

theorem Try.info_Entry : (Try.prog.info? 26).map (fun i => (i.zero, i.size, i.bytes)) = some (some (.agg #[.int .i64 0, .int .i64 0]), 2, 16) := by kernel_rfl

end Go.Proofs.Ytckapndpefkcgaa
