/-
  The walk of FnScheds.
-/
import Derived.Test.YtckapndpefkcgaaDrawP5
import Derived.Test.YtckapndpefkcgaaDraw1d
import Derived.Test.YtckapndpefkcgaaSame5
import Derived.Test.YtckapndpefkcgaaSpec5b
import Derived.Test.YtckapndpefkcgaaSpec5a
import Derived.Test.YtckapndpefkcgaaImpl5a
import Derived.Test.YtckapndpefkcgaaSpec5d
import Derived.Test.YtckapndpefkcgaaAns5
set_option maxHeartbeats 1000000
namespace Go.Proofs.Ytckapndpefkcgaa
open Go.RowKit
set_option maxRecDepth 100000

theorem run_sr0 (q i r b : Int) (A : Option Addr) (k c : Nat) (W : World) : (Instr.field 56 (.agg #[.int .i64 q, .int .i64 i, .int .i64 r, .int .i64 b, .slice A k c]) 0).run Try.prog W = .ok (.int .i64 q) W := by kernel_rfl
theorem run_sr1 (q i r b : Int) (A : Option Addr) (k c : Nat) (W : World) : (Instr.field 56 (.agg #[.int .i64 q, .int .i64 i, .int .i64 r, .int .i64 b, .slice A k c]) 1).run Try.prog W = .ok (.int .i64 i) W := by kernel_rfl
theorem run_sr2 (q i r b : Int) (A : Option Addr) (k c : Nat) (W : World) : (Instr.field 56 (.agg #[.int .i64 q, .int .i64 i, .int .i64 r, .int .i64 b, .slice A k c]) 2).run Try.prog W = .ok (.int .i64 r) W := by kernel_rfl
theorem run_sr3 (q i r b : Int) (A : Option Addr) (k c : Nat) (W : World) : (Instr.field 56 (.agg #[.int .i64 q, .int .i64 i, .int .i64 r, .int .i64 b, .slice A k c]) 3).run Try.prog W = .ok (.agg #[.int .i64 b, .slice A k c]) W := by kernel_rfl
end Go.Proofs.Ytckapndpefkcgaa
