/-
  The walk of FnLocks for every code, however long. No conditions.
-/
import Derived.Test.YtachpoehejdpjaaDoorLocks
namespace Go.Proofs.YtachpoehejdpjaaDoor
open Go.RowKit
set_option maxRecDepth 100000

theorem walkLocksAll (E : E6) (A : Option Addr) (k c : Nat) (b : Nat → Int) (w : World) (hE : Errs E w) (hU : Unf E w) (h : Sl w 0 w.heap.size A k (fun j => .int .u8 (b j))) (hb : ∀ j, 0 ≤ b j ∧ b j ≤ 255) :
    Calls Tryd.prog 3 #[.slice A k c] w fun e w' => e = .returned (.bool true) ∧ Below w.heap.size w w' := by
  by_cases hk : k ≤ 1048576
  · exact walkLocks E A k c b w hE hU h hb hk
  · have hk : 1048576 < k := by omega
    go_enter Tryd.func3, Tryd.ntmps3
    go_wp2_with (go_at_call 5; refine (lwBig_any _ _ _ _).mono ?_; rintro e w' ⟨rfl, rfl⟩)
    go_ret
    exact ⟨rfl, Below.refl _ _⟩

end Go.Proofs.YtachpoehejdpjaaDoor
