/-
  The draws of chapter 1 (DrawTakeSlot, DrawFreeSlot, DrawMoveSlot, DrawNewVector, DrawDropSlots, DrawSameInts): each returns lists in memory of its own and numbers, and turns nothing that was there. For codes of at most 2^20 bytes.
-/
import Derived.Test.YtckapndpefkcgaaDraw1b
set_option maxHeartbeats 1000000
namespace Go.Proofs.Ytckapndpefkcgaa
open Go.RowKit

def Own1 (w w' : World) (B : Option Addr) (n c' : Nat) (xs : List Int) : Prop :=
  xs.length = n ∧ n ≤ 13 ∧ (B = none → c' = 0) ∧ Mine w' w.heap.size w'.heap.size 2 B n (fun j => .int .i64 (gi xs j)) ∧ (∀ j, -2 ≤ gi xs j ∧ gi xs j ≤ 4) ∧ Below w.heap.size w w'

end Go.Proofs.Ytckapndpefkcgaa
