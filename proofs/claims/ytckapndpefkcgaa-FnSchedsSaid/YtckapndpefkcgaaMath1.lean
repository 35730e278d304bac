/-
  Chapter 1's plain mathematics: what a list of owners is worth (its fault, its counts), in Lean's own lists. No program is named here.
-/
import Derived.Test.YtckapndpefkcgaaBase
set_option maxHeartbeats 1000000
namespace Go.Proofs.Ytckapndpefkcgaa
open Go.RowKit

def inR (lo hi v : Int) : Bool := decide (lo ≤ v ∧ v ≤ hi)
theorem inR_true {lo hi v : Int} (h : lo ≤ v ∧ v ≤ hi) : inR lo hi v = true := decide_eq_true h
theorem inR_false {lo hi v : Int} (h : ¬ (lo ≤ v ∧ v ≤ hi)) : inR lo hi v = false := decide_eq_false h
end Go.Proofs.Ytckapndpefkcgaa
