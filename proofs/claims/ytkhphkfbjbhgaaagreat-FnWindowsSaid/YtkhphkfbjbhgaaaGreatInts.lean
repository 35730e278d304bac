/-
  The laws' own helpers on slices of int64 (copy, compare, mark, look again): what each does, for every slice that can be read. No conditions beyond that the slices can be read.
-/
import Derived.Test.YtkhphkfbjbhgaaaGreatChecked
import Derived.Test.YtkhphkfbjbhgaaaGreatBase
namespace Go.Proofs.YtkhphkfbjbhgaaaGreat
open Go.RowKit

set_option maxHeartbeats 1000000 in
theorem Tryz.info_i64 : (Tryz.prog.info? 2).map (fun i => (i.zero, i.size, i.bytes)) = some (some (.int .i64 0), 1, 8) := by kernel_rfl

end Go.Proofs.YtkhphkfbjbhgaaaGreat
