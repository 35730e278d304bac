/-
  DERIVED. GIVEN WITH THE SEED: THE PROGRAM's TIES (one call each: nine closed facts by the kernel) AND EACH ROW's TIE, after the 31st guide's Derived/Test/Toyas{Tie, Card}.lean. No idea stands in it: it is a product of the set-up. Laid BY PROGRAM, IN A SANDBOX (cutbox-door.mjs). By AI agents, Wed Nov 11 2026. No macro, syntax, notation, axiom, sorry.
-/
import Derived.Test.YtfgllhomnmacfaaDoorRows
import Derived.LaidByTextLater
import Derived.SevenTiedAt
import Derived.LaidSub
import Derived.LaidOnce
namespace Go.Proofs.YtfgllhomnmacfaaDoor
open Go
set_option maxRecDepth 100000
theorem seatTie1 : Tryd.prog.laidByTextLater [("loop.example/g00789/impl.errTooMany", Rows.laid_loop_example_g00789_impl_errTooMany), ("loop.example/g00789/impl.errNoSuchOne", Rows.laid_loop_example_g00789_impl_errNoSuchOne), ("loop.example/g00789/impl.errNobodyWaits", Rows.laid_loop_example_g00789_impl_errNobodyWaits), ("loop.example/g00789/impl.errIsThere", Rows.laid_loop_example_g00789_impl_errIsThere), ("loop.example/g00789/impl.errNotOwner", Rows.laid_loop_example_g00789_impl_errNotOwner), ("loop.example/g00789/impl.errUnfitOwner", Rows.laid_loop_example_g00789_impl_errUnfitOwner)] [.sentinel, .sentinel, .sentinel, .sentinel, .sentinel, .sentinel] true :=
  Program.laidByTextLater_by_one 123 8 2 (by kernel_rfl) (by kernel_rfl) (by kernel_rfl) (by kernel_rfl) (by kernel_rfl) (by kernel_rfl) (fun _ _ => by kernel_rfl)
theorem noOwnUnsafe : Tryd.pinned.checked.prog.headLifts.contains "ownunsafe" = false := by kernel_rfl
theorem tie : Tryd.prog.laidByTextLater [("loop.example/g00789/impl.errTooMany", Rows.laid_loop_example_g00789_impl_errTooMany), ("loop.example/g00789/impl.errNoSuchOne", Rows.laid_loop_example_g00789_impl_errNoSuchOne), ("loop.example/g00789/impl.errNobodyWaits", Rows.laid_loop_example_g00789_impl_errNobodyWaits), ("loop.example/g00789/impl.errIsThere", Rows.laid_loop_example_g00789_impl_errIsThere), ("loop.example/g00789/impl.errNotOwner", Rows.laid_loop_example_g00789_impl_errNotOwner), ("loop.example/g00789/impl.errUnfitOwner", Rows.laid_loop_example_g00789_impl_errUnfitOwner)] [.sentinel, .sentinel, .sentinel, .sentinel, .sentinel, .sentinel] true :=
  Program.laidByTextLater.sub seatTie1 ["loop.example/g00789/impl.errTooMany", "loop.example/g00789/impl.errNoSuchOne", "loop.example/g00789/impl.errNobodyWaits", "loop.example/g00789/impl.errIsThere", "loop.example/g00789/impl.errNotOwner", "loop.example/g00789/impl.errUnfitOwner"] (by kernel_rfl) (by kernel_rfl)
theorem fnLocks_row_tie : Rows.fnLocksRow.laidByTextAt .later Tryd.pinned [.sentinel, .sentinel, .sentinel, .sentinel, .sentinel, .sentinel] true :=
  OpenClaim.laidByTextAt_later rfl rfl tie noOwnUnsafe
theorem fnWakes_row_tie : Rows.fnWakesRow.laidByTextAt .later Tryd.pinned [.sentinel, .sentinel, .sentinel, .sentinel, .sentinel, .sentinel] true :=
  OpenClaim.laidByTextAt_later rfl rfl tie noOwnUnsafe
theorem fnExactLockFault_row_tie : Rows.fnExactLockFaultRow.laidByTextAt .later Tryd.pinned [.sentinel, .sentinel, .sentinel, .sentinel, .sentinel, .sentinel] true :=
  OpenClaim.laidByTextAt_later rfl rfl tie noOwnUnsafe
theorem fnExactTakeLock_row_tie : Rows.fnExactTakeLockRow.laidByTextAt .later Tryd.pinned [.sentinel, .sentinel, .sentinel, .sentinel, .sentinel, .sentinel] true :=
  OpenClaim.laidByTextAt_later rfl rfl tie noOwnUnsafe
theorem fnExactPassLock_row_tie : Rows.fnExactPassLockRow.laidByTextAt .later Tryd.pinned [.sentinel, .sentinel, .sentinel, .sentinel, .sentinel, .sentinel] true :=
  OpenClaim.laidByTextAt_later rfl rfl tie noOwnUnsafe
theorem fnExactWakeOne_row_tie : Rows.fnExactWakeOneRow.laidByTextAt .later Tryd.pinned [.sentinel, .sentinel, .sentinel, .sentinel, .sentinel, .sentinel] true :=
  OpenClaim.laidByTextAt_later rfl rfl tie noOwnUnsafe
theorem fnExactWakeAll_row_tie : Rows.fnExactWakeAllRow.laidByTextAt .later Tryd.pinned [.sentinel, .sentinel, .sentinel, .sentinel, .sentinel, .sentinel] true :=
  OpenClaim.laidByTextAt_later rfl rfl tie noOwnUnsafe
theorem tie2 : Tryd.prog.laidByTextLater [("loop.example/g00789/impl.errTooMany", Rows.laid_loop_example_g00789_impl_errTooMany), ("loop.example/g00789/impl.errNoSuchOne", Rows.laid_loop_example_g00789_impl_errNoSuchOne), ("loop.example/g00789/impl.errNobodyWaits", Rows.laid_loop_example_g00789_impl_errNobodyWaits), ("loop.example/g00789/impl.errIsThere", Rows.laid_loop_example_g00789_impl_errIsThere), ("loop.example/g00789/impl.errNotOwner", Rows.laid_loop_example_g00789_impl_errNotOwner)] [.sentinel, .sentinel, .sentinel, .sentinel, .sentinel] true :=
  Program.laidByTextLater.sub seatTie1 ["loop.example/g00789/impl.errTooMany", "loop.example/g00789/impl.errNoSuchOne", "loop.example/g00789/impl.errNobodyWaits", "loop.example/g00789/impl.errIsThere", "loop.example/g00789/impl.errNotOwner"] (by kernel_rfl) (by kernel_rfl)
theorem fnExactQueueFault_row_tie : Rows.fnExactQueueFaultRow.laidByTextAt .later Tryd.pinned [.sentinel, .sentinel, .sentinel, .sentinel, .sentinel] true :=
  OpenClaim.laidByTextAt_later rfl rfl tie2 noOwnUnsafe
theorem fnExactWaitQueue_row_tie : Rows.fnExactWaitQueueRow.laidByTextAt .later Tryd.pinned [.sentinel, .sentinel, .sentinel, .sentinel, .sentinel] true :=
  OpenClaim.laidByTextAt_later rfl rfl tie2 noOwnUnsafe
theorem fnLocksUpto_row_tie : Rows.fnLocksUptoRow.laidByTextAt .later Tryd.pinned [.sentinel, .sentinel, .sentinel, .sentinel, .sentinel, .sentinel] true :=
  OpenClaim.laidByTextAt_later rfl rfl tie noOwnUnsafe
theorem fnWakesUpto_row_tie : Rows.fnWakesUptoRow.laidByTextAt .later Tryd.pinned [.sentinel, .sentinel, .sentinel, .sentinel, .sentinel, .sentinel] true :=
  OpenClaim.laidByTextAt_later rfl rfl tie noOwnUnsafe
theorem fnExactLockFaultUpto_row_tie : Rows.fnExactLockFaultUptoRow.laidByTextAt .later Tryd.pinned [.sentinel, .sentinel, .sentinel, .sentinel, .sentinel, .sentinel] true :=
  OpenClaim.laidByTextAt_later rfl rfl tie noOwnUnsafe
theorem fnExactQueueFaultUpto_row_tie : Rows.fnExactQueueFaultUptoRow.laidByTextAt .later Tryd.pinned [.sentinel, .sentinel, .sentinel, .sentinel, .sentinel] true :=
  OpenClaim.laidByTextAt_later rfl rfl tie2 noOwnUnsafe
theorem fnExactTakeLockUpto_row_tie : Rows.fnExactTakeLockUptoRow.laidByTextAt .later Tryd.pinned [.sentinel, .sentinel, .sentinel, .sentinel, .sentinel, .sentinel] true :=
  OpenClaim.laidByTextAt_later rfl rfl tie noOwnUnsafe
theorem fnExactPassLockUpto_row_tie : Rows.fnExactPassLockUptoRow.laidByTextAt .later Tryd.pinned [.sentinel, .sentinel, .sentinel, .sentinel, .sentinel, .sentinel] true :=
  OpenClaim.laidByTextAt_later rfl rfl tie noOwnUnsafe
theorem fnExactWaitQueueUpto_row_tie : Rows.fnExactWaitQueueUptoRow.laidByTextAt .later Tryd.pinned [.sentinel, .sentinel, .sentinel, .sentinel, .sentinel] true :=
  OpenClaim.laidByTextAt_later rfl rfl tie2 noOwnUnsafe
theorem fnExactWakeOneUpto_row_tie : Rows.fnExactWakeOneUptoRow.laidByTextAt .later Tryd.pinned [.sentinel, .sentinel, .sentinel, .sentinel, .sentinel, .sentinel] true :=
  OpenClaim.laidByTextAt_later rfl rfl tie noOwnUnsafe
theorem fnExactWakeAllUpto_row_tie : Rows.fnExactWakeAllUptoRow.laidByTextAt .later Tryd.pinned [.sentinel, .sentinel, .sentinel, .sentinel, .sentinel, .sentinel] true :=
  OpenClaim.laidByTextAt_later rfl rfl tie noOwnUnsafe
end Go.Proofs.YtfgllhomnmacfaaDoor
