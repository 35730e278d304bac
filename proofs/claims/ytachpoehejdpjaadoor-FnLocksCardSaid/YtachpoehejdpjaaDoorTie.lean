/-
  DERIVED. GIVEN WITH THE SEED: THE PROGRAM's TIES (one call each: nine closed facts by the kernel) AND EACH ROW's TIE, after the 31st guide's Derived/Test/Toyas{Tie, Card}.lean. No idea stands in it: it is a product of the set-up. Laid BY PROGRAM, IN A SANDBOX (cutbox-door.mjs). By AI agents, Wed Nov 11 2026. No macro, syntax, notation, axiom, sorry.
-/
import Derived.Test.YtachpoehejdpjaaDoorRows
import Derived.LaidByTextLater
import Derived.SevenTiedAt
import Derived.LaidSub
import Derived.LaidOnce
namespace Go.Proofs.YtachpoehejdpjaaDoor
open Go
set_option maxRecDepth 100000
theorem seatTie1 : Tryd.prog.laidByTextLater [("loop.example/g00789/impl.errTooMany", Rows.laid_loop_example_g00789_impl_errTooMany), ("loop.example/g00789/impl.errNoSuchOne", Rows.laid_loop_example_g00789_impl_errNoSuchOne), ("loop.example/g00789/impl.errNobodyWaits", Rows.laid_loop_example_g00789_impl_errNobodyWaits), ("loop.example/g00789/impl.errIsThere", Rows.laid_loop_example_g00789_impl_errIsThere), ("loop.example/g00789/impl.errNotOwner", Rows.laid_loop_example_g00789_impl_errNotOwner), ("loop.example/g00789/impl.errUnfitOwner", Rows.laid_loop_example_g00789_impl_errUnfitOwner)] [.sentinel, .sentinel, .sentinel, .sentinel, .sentinel, .sentinel] true :=
  Program.laidByTextLater_by_one 123 8 2 (by kernel_rfl) (by kernel_rfl) (by kernel_rfl) (by kernel_rfl) (by kernel_rfl) (by kernel_rfl) (fun _ _ => by kernel_rfl)
theorem noOwnUnsafe : Tryd.pinned.checked.prog.headLifts.contains "ownunsafe" = false := by kernel_rfl
theorem tie : Tryd.prog.laidByTextLater [("loop.example/g00789/impl.errTooMany", Rows.laid_loop_example_g00789_impl_errTooMany), ("loop.example/g00789/impl.errNoSuchOne", Rows.laid_loop_example_g00789_impl_errNoSuchOne), ("loop.example/g00789/impl.errNobodyWaits", Rows.laid_loop_example_g00789_impl_errNobodyWaits), ("loop.example/g00789/impl.errIsThere", Rows.laid_loop_example_g00789_impl_errIsThere), ("loop.example/g00789/impl.errNotOwner", Rows.laid_loop_example_g00789_impl_errNotOwner), ("loop.example/g00789/impl.errUnfitOwner", Rows.laid_loop_example_g00789_impl_errUnfitOwner)] [.sentinel, .sentinel, .sentinel, .sentinel, .sentinel, .sentinel] true :=
  Program.laidByTextLater.sub seatTie1 ["loop.example/g00789/impl.errTooMany", "loop.example/g00789/impl.errNoSuchOne", "loop.example/g00789/impl.errNobodyWaits", "loop.example/g00789/impl.errIsThere", "loop.example/g00789/impl.errNotOwner", "loop.example/g00789/impl.errUnfitOwner"] (by kernel_rfl) (by kernel_rfl)
theorem fnLocks_row_tie : Rows.fnLocksRow.laidByTextAt .later Tryd.pinned [.sentinel, .sentinel, .sentinel, .sentinel, .sentinel, .sentinel] true :=
  OpenClaim.laidByTextAt_later rfl rfl tie noOwnUnsafe
theorem fnWakes_row_tie : Rows.fnWakesRow.laidByTextAt .later Tryd.pinned [.sentinel, .sentinel, .sentinel, .sentinel, .sentinel, .sentinel] true :=
  OpenClaim.laidByTextAt_later rfl rfl tie noOwnUnsafe
theorem fnLocksUpto_row_tie : Rows.fnLocksUptoRow.laidByTextAt .later Tryd.pinned [.sentinel, .sentinel, .sentinel, .sentinel, .sentinel, .sentinel] true :=
  OpenClaim.laidByTextAt_later rfl rfl tie noOwnUnsafe
theorem fnWakesUpto_row_tie : Rows.fnWakesUptoRow.laidByTextAt .later Tryd.pinned [.sentinel, .sentinel, .sentinel, .sentinel, .sentinel, .sentinel] true :=
  OpenClaim.laidByTextAt_later rfl rfl tie noOwnUnsafe
end Go.Proofs.YtachpoehejdpjaaDoor
