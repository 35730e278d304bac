/-
  lwBig and lwNums, the promise laws' own helpers.
-/
import Derived.Test.YtmbgelhkodjilaaSpec1
namespace Go.Proofs.Ytmbgelhkodjilaa
open Go.RowKit

theorem lwBig_any (A : Option Addr) (k c : Nat) (w : World) :
    Calls Try.prog 9 #[.slice A k c] w fun e w' => e = .returned (.bool (decide ((1048576 : Int) < (k : Int)))) ∧ w = w' := by
  go_enter Try.func9, Try.ntmps9
  go_wp2
  go_ret
  exact ⟨rfl, rfl⟩

end Go.Proofs.Ytmbgelhkodjilaa
