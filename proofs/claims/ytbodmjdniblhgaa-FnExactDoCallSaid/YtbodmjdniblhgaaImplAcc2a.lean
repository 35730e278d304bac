/-
  The program's small parts of chapter 2: a counter that raises and lowers itself within its bounds, and a ledger of four such counters. No conditions.
-/
import Derived.Test.YtbodmjdniblhgaaMath2
import Derived.Test.YtbodmjdniblhgaaSpec1
import Derived.Deep.RegionHeld3
import Derived.BigQuiet
namespace Go.Proofs.Ytbodmjdniblhgaa
open Go.RowKit

theorem fits_any (c m : Int) (w : World) :
    Calls Try.prog 87 #[.agg #[.int .i64 c, .int .i64 m]] w fun e w' => e = .returned (.bool (inR 0 m c)) ∧ Below w.heap.size w w' := by
  have B1 := Lib.hid (below_new w (.cells #[.int .i64 c, .int .i64 m] 112))
  by_cases h1 : 0 ≤ c
  · by_cases h2 : c ≤ m
    · go_enter Try.func87, Try.ntmps87
      go_wp2
      go_ret
      exact ⟨ret_bool (inR_true ⟨h1, h2⟩).symm, B1.out⟩
    · go_enter Try.func87, Try.ntmps87
      go_wp2
      go_ret
      exact ⟨ret_bool (inR_false (by omega)).symm, B1.out⟩
  · go_enter Try.func87, Try.ntmps87
    go_wp2
    go_ret
    exact ⟨ret_bool (inR_false (by omega)).symm, B1.out⟩

theorem ticksOf_any (c : Int) (w : World) :
    Calls Try.prog 94 #[.int .i64 c] w fun e w' => e = .returned (.agg #[.int .i64 c, .int .i64 1000000]) ∧ Below w.heap.size w w' := by
  have B1 : Hid (∀ o, Below w.heap.size w (w.alloc o)) := fun o => below_new w o
  go_enter Try.func94, Try.ntmps94
  go_wp2
  go_returns
  exact ⟨rfl, B1.out _⟩

end Go.Proofs.Ytbodmjdniblhgaa
