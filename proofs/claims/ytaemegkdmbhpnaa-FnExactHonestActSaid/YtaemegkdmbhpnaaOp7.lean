/-
  OpFault: the model's and the program's, on numbers. No conditions.
-/
import Derived.Test.YtaemegkdmbhpnaaSpec1
import Derived.Deep.RegionHeld3
namespace Go.Proofs.Ytaemegkdmbhpnaa
open Go.RowKit
set_option maxRecDepth 100000

/-- the fault of an op -/
def of7 (k l c : Int) : Int :=
  if k = 1 then (if l ≠ 0 ∨ c ≠ 0 then 1 else 0)
  else if k = 2 ∨ k = 3 then (if c ≠ 0 then 1 else if l < 0 ∨ 1 < l then 3 else 0)
  else if k = 4 ∨ k = 5 ∨ k = 6 then (if l < 0 ∨ 1 < l ∨ c < 0 ∨ 1 < c then 3 else 0)
  else 1
theorem ret_int7 {a b : Int} (h : a = b) : Ending.returned (.int .i64 a) = .returned (.int .i64 b) := by rw [h]
end Go.Proofs.Ytaemegkdmbhpnaa
