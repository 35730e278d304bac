/-
  The draws of chapter 1, the others (DrawMoveSlot, DrawDropSlots, DrawSameInts): each returns lists in memory of its own and numbers, and turns nothing that was there. For codes of at most 2^20 bytes.
-/
import Derived.Test.YtckapndpefkcgaaPick
set_option maxHeartbeats 1000000
namespace Go.Proofs.Ytckapndpefkcgaa
open Go.RowKit

theorem lwBig_any (A : Option Addr) (k c : Nat) (w : World) :
    Calls Try.prog 7 #[.slice A k c] w fun e w' => e = .returned (.bool (decide ((1048576 : Int) < (k : Int)))) ∧ w = w' := by
  go_enter Try.func7, Try.ntmps7
  go_wp2
  go_ret
  exact ⟨rfl, rfl⟩

end Go.Proofs.Ytckapndpefkcgaa
