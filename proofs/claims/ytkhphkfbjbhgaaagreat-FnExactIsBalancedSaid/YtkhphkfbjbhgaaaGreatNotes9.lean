/-
  The law's helpers on lists of notes that came in: size, copy; how such a list is opened. No conditions beyond that the lists can be read.
-/
import Derived.Test.YtkhphkfbjbhgaaaGreatInts
import Derived.Test.YtkhphkfbjbhgaaaGreatOwn4
import Derived.Test.YtkhphkfbjbhgaaaGreatSpec3n
import Derived.Test.YtkhphkfbjbhgaaaGreatKans3
namespace Go.Proofs.YtkhphkfbjbhgaaaGreat
open Go.RowKit
set_option maxRecDepth 100000

set_option maxHeartbeats 1000000 in
theorem Tryz.info_Note9 : (Tryz.prog.info? 65).map (fun i => (i.zero, i.size, i.bytes)) = some (some (.agg #[.int .i64 0, .int .i64 0, .int .i64 0]), 3, 24) := by kernel_rfl
end Go.Proofs.YtkhphkfbjbhgaaaGreat
