/-
  The walks of FnExactCallFault and FnExactEventFault: they return true for every call and event, where the program's functions answer as the model's.
-/
import Derived.Test.YtbodmjdniblhgaaSpec3a
namespace Go.Proofs.Ytbodmjdniblhgaa
open Go.RowKit

theorem toCall_any (k e s t : Int) (w : World) :
    Calls Try.prog 7 #[.agg #[.int .i64 k, .int .i64 e, .int .i64 s, .int .i64 t]] w fun r w' => r = .returned (.agg #[.int .i64 k, .int .i64 e, .int .i64 s, .int .i64 t]) ∧ Below w.heap.size w w' := by
  have B3 : Hid (∀ o o' o'', Below w.heap.size w (((w.alloc o).alloc o').alloc o'')) := fun o o' o'' => (((Below.refl _ _).alloc (Nat.le_refl _) o).alloc (by simp) o').alloc (by simp; omega) o''
  go_enter Try.func7, Try.ntmps7
  go_wp2
  go_returns
  exact ⟨rfl, B3.out _ _ _⟩

end Go.Proofs.Ytbodmjdniblhgaa
