/-
  NARROWER THAN 'FOR EVERY INPUT', by the rows' own cells (each row's printed sentence says how): FnLocks: ifaces, laid · FnWakes: ifaces, laid · FnExactLockFault: ifaces, laid · FnExactQueueFault: ifaces, laid · FnExactTakeLock: ifaces, laid · FnExactPassLock: ifaces, laid · FnExactWaitQueue: ifaces, laid · FnExactWakeOne: ifaces, laid · FnExactWakeAll: ifaces, laid.
  DERIVED. THE GIVEN ROWS OF THIS SEAT. 9 by the template 'for every input the law returns true; each argument reads behind the call as it read before'; 0 by the template 'total and deterministic' (their statements: YtfgllhomnmacfaaDoorTotals.lean).
  GIVEN WITH THE SEED: the statements are not yours to turn. If you find one false, say at which input.
  Laid BY PROGRAM, IN A SANDBOX (cutbox-rows.mjs): the forced cells as the released guide's own fill.sh prints them over the translation 236888f57b35cd34… (all of the seat's roots in one cut). By AI agents, Wed Nov 11 2026. No macro, syntax, notation, axiom, sorry.
-/
import Derived.Test.YtfgllhomnmacfaaDoorChecked
import GoSem.Claim
import GoSem.ClaimJoined
import GoSem.ClaimMapViews
import Derived.JoinedTies
import Derived.KernelRfl
namespace Go.Proofs.YtfgllhomnmacfaaDoor
/- THE CELL 'sum', in the pinned program and in every row, IS THE sha256 OF THE DUMP (.gsa) THAT YtfgllhomnmacfaaDoorProg.lean LOADS. Nothing in Lean hashes anything: it is a label: what it is worth is what the hold of that sum in a sandbox is worth. -/
noncomputable def Tryd.pinned : Pinned := { name := "ytfgllhomnmacfaadoor", sum := "236888f57b35cd34dbc23640cd44f7f310b5b04f147264d7c3e46be478db332b", checked := Tryd.checked }
namespace Rows
def none {H : Type} : Left H := { results := [], args := [] }

/- WHAT THE LISTED PACKAGE-LEVEL VARIABLES READ AS WHEN THE CALL BEGINS. Each datum BY PROGRAM (the guide's laid-datum.mjs) off the statement by which the dump's own 'gosem.cut.vars' lays the variable. In a bare row this is a premise. The card (YtfgllhomnmacfaaDoorCards.lean) ties it to the program's text. -/
def laid_loop_example_g00789_impl_errTooMany {H : Type} : DataW H := .iface "*errors.errorString" (.ptr (.agg [.lit (.string [116, 111, 111, 32, 109, 97, 110, 121, 32, 119, 97, 105, 116])]))
def laid_loop_example_g00789_impl_errNoSuchOne {H : Type} : DataW H := .iface "*errors.errorString" (.ptr (.agg [.lit (.string [116, 104, 101, 114, 101, 32, 105, 115, 32, 110, 111, 32, 115, 117, 99, 104, 32, 116, 104, 114, 101, 97, 100])]))
def laid_loop_example_g00789_impl_errNobodyWaits {H : Type} : DataW H := .iface "*errors.errorString" (.ptr (.agg [.lit (.string [110, 111, 98, 111, 100, 121, 32, 119, 97, 105, 116, 115])]))
def laid_loop_example_g00789_impl_errIsThere {H : Type} : DataW H := .iface "*errors.errorString" (.ptr (.agg [.lit (.string [105, 116, 32, 111, 119, 110, 115, 32, 116, 104, 101, 32, 108, 111, 99, 107, 44, 32, 111, 114, 32, 119, 97, 105, 116, 115, 32, 97, 108, 114, 101, 97, 100, 121])]))
def laid_loop_example_g00789_impl_errNotOwner {H : Type} : DataW H := .iface "*errors.errorString" (.ptr (.agg [.lit (.string [105, 116, 32, 100, 111, 101, 115, 32, 110, 111, 116, 32, 111, 119, 110, 32, 116, 104, 101, 32, 108, 111, 99, 107])]))
def laid_loop_example_g00789_impl_errUnfitOwner {H : Type} : DataW H := .iface "*errors.errorString" (.ptr (.agg [.lit (.string [116, 104, 101, 32, 111, 119, 110, 101, 114, 32, 100, 111, 101, 115, 32, 110, 111, 116, 32, 102, 105, 116, 32, 116, 111, 32, 116, 104, 111, 115, 101, 32, 116, 104, 97, 116, 32, 119, 97, 105, 116])]))

/-- 'laws.FnLocks': WHATEVER THE INPUT: true; the input reads as it did. -/
def fnLocksSpec : ChangeSpec := { name := "fnLocks", vars := ["loop.example/g00789/impl.errNoSuchOne", "loop.example/g00789/impl.errUnfitOwner", "loop.example/g00789/impl.errTooMany", "loop.example/g00789/impl.errIsThere", "loop.example/g00789/impl.errNobodyWaits", "loop.example/g00789/impl.errNotOwner"], fn := fun _ => fun
  | [d, g1, g2, g3, g4, g5, g6] => { results := [.lit (.bool true)], args := [d], vars := [g1, g2, g3, g4, g5, g6] }
  | _ => none }
def fnLocksRow : OpenClaim := { program := "ytfgllhomnmacfaadoor", sum := "236888f57b35cd34dbc23640cd44f7f310b5b04f147264d7c3e46be478db332b", func := "loop.example/g00789/laws.FnLocks", spec := "fnLocks", inPlace := ["internal/reflectlite.TypeOf"], unfollowed := true, recurses := true, named := ["loop.example/g00789/impl.errNoSuchOne", "loop.example/g00789/impl.errUnfitOwner", "loop.example/g00789/impl.errTooMany", "loop.example/g00789/impl.errIsThere", "loop.example/g00789/impl.errNobodyWaits", "loop.example/g00789/impl.errNotOwner"], ifaces := true, apart := false, laid := [("loop.example/g00789/impl.errTooMany", laid_loop_example_g00789_impl_errTooMany), ("loop.example/g00789/impl.errNoSuchOne", laid_loop_example_g00789_impl_errNoSuchOne), ("loop.example/g00789/impl.errNobodyWaits", laid_loop_example_g00789_impl_errNobodyWaits), ("loop.example/g00789/impl.errIsThere", laid_loop_example_g00789_impl_errIsThere), ("loop.example/g00789/impl.errNotOwner", laid_loop_example_g00789_impl_errNotOwner), ("loop.example/g00789/impl.errUnfitOwner", laid_loop_example_g00789_impl_errUnfitOwner)] }
def FnLocksSaid : Prop := fnLocksRow.holds Tryd.pinned (OpenSpec.ofChange fnLocksSpec)

/-- ITS FALSE NEIGHBOUR: 'it returns false'. Refute it at one input. -/
def fnLocksWrong : ChangeSpec := { name := "fnLocks", vars := ["loop.example/g00789/impl.errNoSuchOne", "loop.example/g00789/impl.errUnfitOwner", "loop.example/g00789/impl.errTooMany", "loop.example/g00789/impl.errIsThere", "loop.example/g00789/impl.errNobodyWaits", "loop.example/g00789/impl.errNotOwner"], fn := fun _ => fun
  | [d, g1, g2, g3, g4, g5, g6] => { results := [.lit (.bool false)], args := [d], vars := [g1, g2, g3, g4, g5, g6] }
  | _ => none }
def FnLocksWrongFalsely : Prop := fnLocksRow.holds Tryd.pinned (OpenSpec.ofChange fnLocksWrong)

/-- 'laws.FnWakes': WHATEVER THE INPUT: true; the input reads as it did. -/
def fnWakesSpec : ChangeSpec := { name := "fnWakes", vars := ["loop.example/g00789/impl.errTooMany", "loop.example/g00789/impl.errNoSuchOne", "loop.example/g00789/impl.errIsThere", "loop.example/g00789/impl.errUnfitOwner", "loop.example/g00789/impl.errNobodyWaits", "loop.example/g00789/impl.errNotOwner"], fn := fun _ => fun
  | [d, g1, g2, g3, g4, g5, g6] => { results := [.lit (.bool true)], args := [d], vars := [g1, g2, g3, g4, g5, g6] }
  | _ => none }
def fnWakesRow : OpenClaim := { program := "ytfgllhomnmacfaadoor", sum := "236888f57b35cd34dbc23640cd44f7f310b5b04f147264d7c3e46be478db332b", func := "loop.example/g00789/laws.FnWakes", spec := "fnWakes", inPlace := ["internal/reflectlite.TypeOf"], unfollowed := true, recurses := true, named := ["loop.example/g00789/impl.errTooMany", "loop.example/g00789/impl.errNoSuchOne", "loop.example/g00789/impl.errIsThere", "loop.example/g00789/impl.errUnfitOwner", "loop.example/g00789/impl.errNobodyWaits", "loop.example/g00789/impl.errNotOwner"], ifaces := true, apart := false, laid := [("loop.example/g00789/impl.errTooMany", laid_loop_example_g00789_impl_errTooMany), ("loop.example/g00789/impl.errNoSuchOne", laid_loop_example_g00789_impl_errNoSuchOne), ("loop.example/g00789/impl.errNobodyWaits", laid_loop_example_g00789_impl_errNobodyWaits), ("loop.example/g00789/impl.errIsThere", laid_loop_example_g00789_impl_errIsThere), ("loop.example/g00789/impl.errNotOwner", laid_loop_example_g00789_impl_errNotOwner), ("loop.example/g00789/impl.errUnfitOwner", laid_loop_example_g00789_impl_errUnfitOwner)] }
def FnWakesSaid : Prop := fnWakesRow.holds Tryd.pinned (OpenSpec.ofChange fnWakesSpec)

/-- ITS FALSE NEIGHBOUR: 'it returns false'. Refute it at one input. -/
def fnWakesWrong : ChangeSpec := { name := "fnWakes", vars := ["loop.example/g00789/impl.errTooMany", "loop.example/g00789/impl.errNoSuchOne", "loop.example/g00789/impl.errIsThere", "loop.example/g00789/impl.errUnfitOwner", "loop.example/g00789/impl.errNobodyWaits", "loop.example/g00789/impl.errNotOwner"], fn := fun _ => fun
  | [d, g1, g2, g3, g4, g5, g6] => { results := [.lit (.bool false)], args := [d], vars := [g1, g2, g3, g4, g5, g6] }
  | _ => none }
def FnWakesWrongFalsely : Prop := fnWakesRow.holds Tryd.pinned (OpenSpec.ofChange fnWakesWrong)

/-- 'laws.FnExactLockFault': WHATEVER THE INPUT: true; the input reads as it did. -/
def fnExactLockFaultSpec : ChangeSpec := { name := "fnExactLockFault", vars := ["loop.example/g00789/impl.errNoSuchOne", "loop.example/g00789/impl.errUnfitOwner", "loop.example/g00789/impl.errTooMany", "loop.example/g00789/impl.errIsThere", "loop.example/g00789/impl.errNobodyWaits", "loop.example/g00789/impl.errNotOwner"], fn := fun _ => fun
  | [d, g1, g2, g3, g4, g5, g6] => { results := [.lit (.bool true)], args := [d], vars := [g1, g2, g3, g4, g5, g6] }
  | _ => none }
def fnExactLockFaultRow : OpenClaim := { program := "ytfgllhomnmacfaadoor", sum := "236888f57b35cd34dbc23640cd44f7f310b5b04f147264d7c3e46be478db332b", func := "loop.example/g00789/laws.FnExactLockFault", spec := "fnExactLockFault", inPlace := ["internal/reflectlite.TypeOf"], unfollowed := true, recurses := true, named := ["loop.example/g00789/impl.errNoSuchOne", "loop.example/g00789/impl.errUnfitOwner", "loop.example/g00789/impl.errTooMany", "loop.example/g00789/impl.errIsThere", "loop.example/g00789/impl.errNobodyWaits", "loop.example/g00789/impl.errNotOwner"], ifaces := true, apart := false, laid := [("loop.example/g00789/impl.errTooMany", laid_loop_example_g00789_impl_errTooMany), ("loop.example/g00789/impl.errNoSuchOne", laid_loop_example_g00789_impl_errNoSuchOne), ("loop.example/g00789/impl.errNobodyWaits", laid_loop_example_g00789_impl_errNobodyWaits), ("loop.example/g00789/impl.errIsThere", laid_loop_example_g00789_impl_errIsThere), ("loop.example/g00789/impl.errNotOwner", laid_loop_example_g00789_impl_errNotOwner), ("loop.example/g00789/impl.errUnfitOwner", laid_loop_example_g00789_impl_errUnfitOwner)] }
def FnExactLockFaultSaid : Prop := fnExactLockFaultRow.holds Tryd.pinned (OpenSpec.ofChange fnExactLockFaultSpec)

/-- ITS FALSE NEIGHBOUR: 'it returns false'. Refute it at one input. -/
def fnExactLockFaultWrong : ChangeSpec := { name := "fnExactLockFault", vars := ["loop.example/g00789/impl.errNoSuchOne", "loop.example/g00789/impl.errUnfitOwner", "loop.example/g00789/impl.errTooMany", "loop.example/g00789/impl.errIsThere", "loop.example/g00789/impl.errNobodyWaits", "loop.example/g00789/impl.errNotOwner"], fn := fun _ => fun
  | [d, g1, g2, g3, g4, g5, g6] => { results := [.lit (.bool false)], args := [d], vars := [g1, g2, g3, g4, g5, g6] }
  | _ => none }
def FnExactLockFaultWrongFalsely : Prop := fnExactLockFaultRow.holds Tryd.pinned (OpenSpec.ofChange fnExactLockFaultWrong)

/-- 'laws.FnExactQueueFault': WHATEVER THE INPUT: true; the input reads as it did. -/
def fnExactQueueFaultSpec : ChangeSpec := { name := "fnExactQueueFault", vars := ["loop.example/g00789/impl.errTooMany", "loop.example/g00789/impl.errNoSuchOne", "loop.example/g00789/impl.errIsThere", "loop.example/g00789/impl.errNobodyWaits", "loop.example/g00789/impl.errNotOwner"], fn := fun _ => fun
  | [d, g1, g2, g3, g4, g5] => { results := [.lit (.bool true)], args := [d], vars := [g1, g2, g3, g4, g5] }
  | _ => none }
def fnExactQueueFaultRow : OpenClaim := { program := "ytfgllhomnmacfaadoor", sum := "236888f57b35cd34dbc23640cd44f7f310b5b04f147264d7c3e46be478db332b", func := "loop.example/g00789/laws.FnExactQueueFault", spec := "fnExactQueueFault", inPlace := ["internal/reflectlite.TypeOf"], unfollowed := true, recurses := true, named := ["loop.example/g00789/impl.errTooMany", "loop.example/g00789/impl.errNoSuchOne", "loop.example/g00789/impl.errIsThere", "loop.example/g00789/impl.errNobodyWaits", "loop.example/g00789/impl.errNotOwner"], ifaces := true, apart := false, laid := [("loop.example/g00789/impl.errTooMany", laid_loop_example_g00789_impl_errTooMany), ("loop.example/g00789/impl.errNoSuchOne", laid_loop_example_g00789_impl_errNoSuchOne), ("loop.example/g00789/impl.errNobodyWaits", laid_loop_example_g00789_impl_errNobodyWaits), ("loop.example/g00789/impl.errIsThere", laid_loop_example_g00789_impl_errIsThere), ("loop.example/g00789/impl.errNotOwner", laid_loop_example_g00789_impl_errNotOwner)] }
def FnExactQueueFaultSaid : Prop := fnExactQueueFaultRow.holds Tryd.pinned (OpenSpec.ofChange fnExactQueueFaultSpec)

/-- ITS FALSE NEIGHBOUR: 'it returns false'. Refute it at one input. -/
def fnExactQueueFaultWrong : ChangeSpec := { name := "fnExactQueueFault", vars := ["loop.example/g00789/impl.errTooMany", "loop.example/g00789/impl.errNoSuchOne", "loop.example/g00789/impl.errIsThere", "loop.example/g00789/impl.errNobodyWaits", "loop.example/g00789/impl.errNotOwner"], fn := fun _ => fun
  | [d, g1, g2, g3, g4, g5] => { results := [.lit (.bool false)], args := [d], vars := [g1, g2, g3, g4, g5] }
  | _ => none }
def FnExactQueueFaultWrongFalsely : Prop := fnExactQueueFaultRow.holds Tryd.pinned (OpenSpec.ofChange fnExactQueueFaultWrong)

/-- 'laws.FnExactTakeLock': WHATEVER THE INPUT: true; the input reads as it did. -/
def fnExactTakeLockSpec : ChangeSpec := { name := "fnExactTakeLock", vars := ["loop.example/g00789/impl.errNoSuchOne", "loop.example/g00789/impl.errUnfitOwner", "loop.example/g00789/impl.errTooMany", "loop.example/g00789/impl.errIsThere", "loop.example/g00789/impl.errNobodyWaits", "loop.example/g00789/impl.errNotOwner"], fn := fun _ => fun
  | [d1, d2, g1, g2, g3, g4, g5, g6] => { results := [.lit (.bool true)], args := [d1, d2], vars := [g1, g2, g3, g4, g5, g6] }
  | _ => none }
def fnExactTakeLockRow : OpenClaim := { program := "ytfgllhomnmacfaadoor", sum := "236888f57b35cd34dbc23640cd44f7f310b5b04f147264d7c3e46be478db332b", func := "loop.example/g00789/laws.FnExactTakeLock", spec := "fnExactTakeLock", inPlace := ["internal/reflectlite.TypeOf"], unfollowed := true, recurses := true, named := ["loop.example/g00789/impl.errNoSuchOne", "loop.example/g00789/impl.errUnfitOwner", "loop.example/g00789/impl.errTooMany", "loop.example/g00789/impl.errIsThere", "loop.example/g00789/impl.errNobodyWaits", "loop.example/g00789/impl.errNotOwner"], ifaces := true, apart := false, laid := [("loop.example/g00789/impl.errTooMany", laid_loop_example_g00789_impl_errTooMany), ("loop.example/g00789/impl.errNoSuchOne", laid_loop_example_g00789_impl_errNoSuchOne), ("loop.example/g00789/impl.errNobodyWaits", laid_loop_example_g00789_impl_errNobodyWaits), ("loop.example/g00789/impl.errIsThere", laid_loop_example_g00789_impl_errIsThere), ("loop.example/g00789/impl.errNotOwner", laid_loop_example_g00789_impl_errNotOwner), ("loop.example/g00789/impl.errUnfitOwner", laid_loop_example_g00789_impl_errUnfitOwner)] }
def FnExactTakeLockSaid : Prop := fnExactTakeLockRow.holds Tryd.pinned (OpenSpec.ofChange fnExactTakeLockSpec)

/-- ITS FALSE NEIGHBOUR: 'it returns false'. Refute it at one input. -/
def fnExactTakeLockWrong : ChangeSpec := { name := "fnExactTakeLock", vars := ["loop.example/g00789/impl.errNoSuchOne", "loop.example/g00789/impl.errUnfitOwner", "loop.example/g00789/impl.errTooMany", "loop.example/g00789/impl.errIsThere", "loop.example/g00789/impl.errNobodyWaits", "loop.example/g00789/impl.errNotOwner"], fn := fun _ => fun
  | [d1, d2, g1, g2, g3, g4, g5, g6] => { results := [.lit (.bool false)], args := [d1, d2], vars := [g1, g2, g3, g4, g5, g6] }
  | _ => none }
def FnExactTakeLockWrongFalsely : Prop := fnExactTakeLockRow.holds Tryd.pinned (OpenSpec.ofChange fnExactTakeLockWrong)

/-- 'laws.FnExactPassLock': WHATEVER THE INPUT: true; the input reads as it did. -/
def fnExactPassLockSpec : ChangeSpec := { name := "fnExactPassLock", vars := ["loop.example/g00789/impl.errNoSuchOne", "loop.example/g00789/impl.errUnfitOwner", "loop.example/g00789/impl.errTooMany", "loop.example/g00789/impl.errIsThere", "loop.example/g00789/impl.errNobodyWaits", "loop.example/g00789/impl.errNotOwner"], fn := fun _ => fun
  | [d1, d2, g1, g2, g3, g4, g5, g6] => { results := [.lit (.bool true)], args := [d1, d2], vars := [g1, g2, g3, g4, g5, g6] }
  | _ => none }
def fnExactPassLockRow : OpenClaim := { program := "ytfgllhomnmacfaadoor", sum := "236888f57b35cd34dbc23640cd44f7f310b5b04f147264d7c3e46be478db332b", func := "loop.example/g00789/laws.FnExactPassLock", spec := "fnExactPassLock", inPlace := ["internal/reflectlite.TypeOf"], unfollowed := true, recurses := true, named := ["loop.example/g00789/impl.errNoSuchOne", "loop.example/g00789/impl.errUnfitOwner", "loop.example/g00789/impl.errTooMany", "loop.example/g00789/impl.errIsThere", "loop.example/g00789/impl.errNobodyWaits", "loop.example/g00789/impl.errNotOwner"], ifaces := true, apart := false, laid := [("loop.example/g00789/impl.errTooMany", laid_loop_example_g00789_impl_errTooMany), ("loop.example/g00789/impl.errNoSuchOne", laid_loop_example_g00789_impl_errNoSuchOne), ("loop.example/g00789/impl.errNobodyWaits", laid_loop_example_g00789_impl_errNobodyWaits), ("loop.example/g00789/impl.errIsThere", laid_loop_example_g00789_impl_errIsThere), ("loop.example/g00789/impl.errNotOwner", laid_loop_example_g00789_impl_errNotOwner), ("loop.example/g00789/impl.errUnfitOwner", laid_loop_example_g00789_impl_errUnfitOwner)] }
def FnExactPassLockSaid : Prop := fnExactPassLockRow.holds Tryd.pinned (OpenSpec.ofChange fnExactPassLockSpec)

/-- ITS FALSE NEIGHBOUR: 'it returns false'. Refute it at one input. -/
def fnExactPassLockWrong : ChangeSpec := { name := "fnExactPassLock", vars := ["loop.example/g00789/impl.errNoSuchOne", "loop.example/g00789/impl.errUnfitOwner", "loop.example/g00789/impl.errTooMany", "loop.example/g00789/impl.errIsThere", "loop.example/g00789/impl.errNobodyWaits", "loop.example/g00789/impl.errNotOwner"], fn := fun _ => fun
  | [d1, d2, g1, g2, g3, g4, g5, g6] => { results := [.lit (.bool false)], args := [d1, d2], vars := [g1, g2, g3, g4, g5, g6] }
  | _ => none }
def FnExactPassLockWrongFalsely : Prop := fnExactPassLockRow.holds Tryd.pinned (OpenSpec.ofChange fnExactPassLockWrong)

/-- 'laws.FnExactWaitQueue': WHATEVER THE INPUT: true; the input reads as it did. -/
def fnExactWaitQueueSpec : ChangeSpec := { name := "fnExactWaitQueue", vars := ["loop.example/g00789/impl.errTooMany", "loop.example/g00789/impl.errNoSuchOne", "loop.example/g00789/impl.errIsThere", "loop.example/g00789/impl.errNobodyWaits", "loop.example/g00789/impl.errNotOwner"], fn := fun _ => fun
  | [d1, d2, g1, g2, g3, g4, g5] => { results := [.lit (.bool true)], args := [d1, d2], vars := [g1, g2, g3, g4, g5] }
  | _ => none }
def fnExactWaitQueueRow : OpenClaim := { program := "ytfgllhomnmacfaadoor", sum := "236888f57b35cd34dbc23640cd44f7f310b5b04f147264d7c3e46be478db332b", func := "loop.example/g00789/laws.FnExactWaitQueue", spec := "fnExactWaitQueue", inPlace := ["internal/reflectlite.TypeOf"], unfollowed := true, recurses := true, named := ["loop.example/g00789/impl.errTooMany", "loop.example/g00789/impl.errNoSuchOne", "loop.example/g00789/impl.errIsThere", "loop.example/g00789/impl.errNobodyWaits", "loop.example/g00789/impl.errNotOwner"], ifaces := true, apart := false, laid := [("loop.example/g00789/impl.errTooMany", laid_loop_example_g00789_impl_errTooMany), ("loop.example/g00789/impl.errNoSuchOne", laid_loop_example_g00789_impl_errNoSuchOne), ("loop.example/g00789/impl.errNobodyWaits", laid_loop_example_g00789_impl_errNobodyWaits), ("loop.example/g00789/impl.errIsThere", laid_loop_example_g00789_impl_errIsThere), ("loop.example/g00789/impl.errNotOwner", laid_loop_example_g00789_impl_errNotOwner)] }
def FnExactWaitQueueSaid : Prop := fnExactWaitQueueRow.holds Tryd.pinned (OpenSpec.ofChange fnExactWaitQueueSpec)

/-- ITS FALSE NEIGHBOUR: 'it returns false'. Refute it at one input. -/
def fnExactWaitQueueWrong : ChangeSpec := { name := "fnExactWaitQueue", vars := ["loop.example/g00789/impl.errTooMany", "loop.example/g00789/impl.errNoSuchOne", "loop.example/g00789/impl.errIsThere", "loop.example/g00789/impl.errNobodyWaits", "loop.example/g00789/impl.errNotOwner"], fn := fun _ => fun
  | [d1, d2, g1, g2, g3, g4, g5] => { results := [.lit (.bool false)], args := [d1, d2], vars := [g1, g2, g3, g4, g5] }
  | _ => none }
def FnExactWaitQueueWrongFalsely : Prop := fnExactWaitQueueRow.holds Tryd.pinned (OpenSpec.ofChange fnExactWaitQueueWrong)

/-- 'laws.FnExactWakeOne': WHATEVER THE INPUT: true; the input reads as it did. -/
def fnExactWakeOneSpec : ChangeSpec := { name := "fnExactWakeOne", vars := ["loop.example/g00789/impl.errTooMany", "loop.example/g00789/impl.errNoSuchOne", "loop.example/g00789/impl.errIsThere", "loop.example/g00789/impl.errUnfitOwner", "loop.example/g00789/impl.errNobodyWaits", "loop.example/g00789/impl.errNotOwner"], fn := fun _ => fun
  | [d1, d2, g1, g2, g3, g4, g5, g6] => { results := [.lit (.bool true)], args := [d1, d2], vars := [g1, g2, g3, g4, g5, g6] }
  | _ => none }
def fnExactWakeOneRow : OpenClaim := { program := "ytfgllhomnmacfaadoor", sum := "236888f57b35cd34dbc23640cd44f7f310b5b04f147264d7c3e46be478db332b", func := "loop.example/g00789/laws.FnExactWakeOne", spec := "fnExactWakeOne", inPlace := ["internal/reflectlite.TypeOf"], unfollowed := true, recurses := true, named := ["loop.example/g00789/impl.errTooMany", "loop.example/g00789/impl.errNoSuchOne", "loop.example/g00789/impl.errIsThere", "loop.example/g00789/impl.errUnfitOwner", "loop.example/g00789/impl.errNobodyWaits", "loop.example/g00789/impl.errNotOwner"], ifaces := true, apart := false, laid := [("loop.example/g00789/impl.errTooMany", laid_loop_example_g00789_impl_errTooMany), ("loop.example/g00789/impl.errNoSuchOne", laid_loop_example_g00789_impl_errNoSuchOne), ("loop.example/g00789/impl.errNobodyWaits", laid_loop_example_g00789_impl_errNobodyWaits), ("loop.example/g00789/impl.errIsThere", laid_loop_example_g00789_impl_errIsThere), ("loop.example/g00789/impl.errNotOwner", laid_loop_example_g00789_impl_errNotOwner), ("loop.example/g00789/impl.errUnfitOwner", laid_loop_example_g00789_impl_errUnfitOwner)] }
def FnExactWakeOneSaid : Prop := fnExactWakeOneRow.holds Tryd.pinned (OpenSpec.ofChange fnExactWakeOneSpec)

/-- ITS FALSE NEIGHBOUR: 'it returns false'. Refute it at one input. -/
def fnExactWakeOneWrong : ChangeSpec := { name := "fnExactWakeOne", vars := ["loop.example/g00789/impl.errTooMany", "loop.example/g00789/impl.errNoSuchOne", "loop.example/g00789/impl.errIsThere", "loop.example/g00789/impl.errUnfitOwner", "loop.example/g00789/impl.errNobodyWaits", "loop.example/g00789/impl.errNotOwner"], fn := fun _ => fun
  | [d1, d2, g1, g2, g3, g4, g5, g6] => { results := [.lit (.bool false)], args := [d1, d2], vars := [g1, g2, g3, g4, g5, g6] }
  | _ => none }
def FnExactWakeOneWrongFalsely : Prop := fnExactWakeOneRow.holds Tryd.pinned (OpenSpec.ofChange fnExactWakeOneWrong)

/-- 'laws.FnExactWakeAll': WHATEVER THE INPUT: true; the input reads as it did. -/
def fnExactWakeAllSpec : ChangeSpec := { name := "fnExactWakeAll", vars := ["loop.example/g00789/impl.errTooMany", "loop.example/g00789/impl.errNoSuchOne", "loop.example/g00789/impl.errIsThere", "loop.example/g00789/impl.errUnfitOwner", "loop.example/g00789/impl.errNobodyWaits", "loop.example/g00789/impl.errNotOwner"], fn := fun _ => fun
  | [d1, d2, g1, g2, g3, g4, g5, g6] => { results := [.lit (.bool true)], args := [d1, d2], vars := [g1, g2, g3, g4, g5, g6] }
  | _ => none }
def fnExactWakeAllRow : OpenClaim := { program := "ytfgllhomnmacfaadoor", sum := "236888f57b35cd34dbc23640cd44f7f310b5b04f147264d7c3e46be478db332b", func := "loop.example/g00789/laws.FnExactWakeAll", spec := "fnExactWakeAll", inPlace := ["internal/reflectlite.TypeOf"], unfollowed := true, recurses := true, named := ["loop.example/g00789/impl.errTooMany", "loop.example/g00789/impl.errNoSuchOne", "loop.example/g00789/impl.errIsThere", "loop.example/g00789/impl.errUnfitOwner", "loop.example/g00789/impl.errNobodyWaits", "loop.example/g00789/impl.errNotOwner"], ifaces := true, apart := false, laid := [("loop.example/g00789/impl.errTooMany", laid_loop_example_g00789_impl_errTooMany), ("loop.example/g00789/impl.errNoSuchOne", laid_loop_example_g00789_impl_errNoSuchOne), ("loop.example/g00789/impl.errNobodyWaits", laid_loop_example_g00789_impl_errNobodyWaits), ("loop.example/g00789/impl.errIsThere", laid_loop_example_g00789_impl_errIsThere), ("loop.example/g00789/impl.errNotOwner", laid_loop_example_g00789_impl_errNotOwner), ("loop.example/g00789/impl.errUnfitOwner", laid_loop_example_g00789_impl_errUnfitOwner)] }
def FnExactWakeAllSaid : Prop := fnExactWakeAllRow.holds Tryd.pinned (OpenSpec.ofChange fnExactWakeAllSpec)

/-- ITS FALSE NEIGHBOUR: 'it returns false'. Refute it at one input. -/
def fnExactWakeAllWrong : ChangeSpec := { name := "fnExactWakeAll", vars := ["loop.example/g00789/impl.errTooMany", "loop.example/g00789/impl.errNoSuchOne", "loop.example/g00789/impl.errIsThere", "loop.example/g00789/impl.errUnfitOwner", "loop.example/g00789/impl.errNobodyWaits", "loop.example/g00789/impl.errNotOwner"], fn := fun _ => fun
  | [d1, d2, g1, g2, g3, g4, g5, g6] => { results := [.lit (.bool false)], args := [d1, d2], vars := [g1, g2, g3, g4, g5, g6] }
  | _ => none }
def FnExactWakeAllWrongFalsely : Prop := fnExactWakeAllRow.holds Tryd.pinned (OpenSpec.ofChange fnExactWakeAllWrong)

/- THE SECOND FORM. 'bulk': how many values and letters a reading holds, each counted each time it is reached (what is shared counts as often as it is met; a slice's spare places count too). A statement '..UptoSaid' is the law's where the arguments, and the package variables that the reading takes, are together of bulk at most 1048576: NARROWER than '..Said'. Prove '..Said' where nothing that the law and all that it calls make is longer than what came in: it says more and counts as full. Else prove '..UptoSaid'. A law counts once. -/
mutual
def uptoBulk {H : Type} : DataW H → Nat
  | .lit (.string bytes) => bytes.length + 1
  | .lit _ => 1
  | .nil => 1
  | .ptr d => uptoBulk d + 1
  | .slice elems spare => uptoBulkAll elems + uptoBulkAll spare + 1
  | .agg parts => uptoBulkAll parts + 1
  | .iface _ d => uptoBulk d + 1
  | .map entries => uptoBulkEntries entries + 1
  | .held _ => 1
def uptoBulkAll {H : Type} : List (DataW H) → Nat
  | [] => 0
  | d :: r => uptoBulk d + uptoBulkAll r
def uptoBulkEntries {H : Type} : List (Lit × DataW H) → Nat
  | [] => 0
  | x :: r => uptoBulkEntry x + uptoBulkEntries r
def uptoBulkEntry {H : Type} : Lit × DataW H → Nat
  | (.string bytes, d) => bytes.length + uptoBulk d + 1
  | (_, d) => uptoBulk d + 1
 end
def uptoSmall : (H : Type) → List (DataW H) → Bool := fun _ ds => decide (uptoBulkAll ds ≤ 1048576)
def OpenSpec.upto (s : _root_.Go.ChangeSpec) : _root_.Go.OpenSpec := { _root_.Go.OpenSpec.ofChange s with cond := some uptoSmall }

/-- 'laws.FnLocks', WHERE WHAT IT READS IS OF BULK AT MOST 1048576: true; the input reads as it did. -/
def fnLocksUptoRow : OpenClaim := { program := "ytfgllhomnmacfaadoor", sum := "236888f57b35cd34dbc23640cd44f7f310b5b04f147264d7c3e46be478db332b", func := "loop.example/g00789/laws.FnLocks", spec := "fnLocks", inPlace := ["internal/reflectlite.TypeOf"], unfollowed := true, recurses := true, named := ["loop.example/g00789/impl.errNoSuchOne", "loop.example/g00789/impl.errUnfitOwner", "loop.example/g00789/impl.errTooMany", "loop.example/g00789/impl.errIsThere", "loop.example/g00789/impl.errNobodyWaits", "loop.example/g00789/impl.errNotOwner"], ifaces := true, apart := false, laid := [("loop.example/g00789/impl.errTooMany", laid_loop_example_g00789_impl_errTooMany), ("loop.example/g00789/impl.errNoSuchOne", laid_loop_example_g00789_impl_errNoSuchOne), ("loop.example/g00789/impl.errNobodyWaits", laid_loop_example_g00789_impl_errNobodyWaits), ("loop.example/g00789/impl.errIsThere", laid_loop_example_g00789_impl_errIsThere), ("loop.example/g00789/impl.errNotOwner", laid_loop_example_g00789_impl_errNotOwner), ("loop.example/g00789/impl.errUnfitOwner", laid_loop_example_g00789_impl_errUnfitOwner)], narrowed := true }
def FnLocksUptoSaid : Prop := fnLocksUptoRow.holds Tryd.pinned (OpenSpec.upto fnLocksSpec)

/-- 'laws.FnWakes', WHERE WHAT IT READS IS OF BULK AT MOST 1048576: true; the input reads as it did. -/
def fnWakesUptoRow : OpenClaim := { program := "ytfgllhomnmacfaadoor", sum := "236888f57b35cd34dbc23640cd44f7f310b5b04f147264d7c3e46be478db332b", func := "loop.example/g00789/laws.FnWakes", spec := "fnWakes", inPlace := ["internal/reflectlite.TypeOf"], unfollowed := true, recurses := true, named := ["loop.example/g00789/impl.errTooMany", "loop.example/g00789/impl.errNoSuchOne", "loop.example/g00789/impl.errIsThere", "loop.example/g00789/impl.errUnfitOwner", "loop.example/g00789/impl.errNobodyWaits", "loop.example/g00789/impl.errNotOwner"], ifaces := true, apart := false, laid := [("loop.example/g00789/impl.errTooMany", laid_loop_example_g00789_impl_errTooMany), ("loop.example/g00789/impl.errNoSuchOne", laid_loop_example_g00789_impl_errNoSuchOne), ("loop.example/g00789/impl.errNobodyWaits", laid_loop_example_g00789_impl_errNobodyWaits), ("loop.example/g00789/impl.errIsThere", laid_loop_example_g00789_impl_errIsThere), ("loop.example/g00789/impl.errNotOwner", laid_loop_example_g00789_impl_errNotOwner), ("loop.example/g00789/impl.errUnfitOwner", laid_loop_example_g00789_impl_errUnfitOwner)], narrowed := true }
def FnWakesUptoSaid : Prop := fnWakesUptoRow.holds Tryd.pinned (OpenSpec.upto fnWakesSpec)

/-- 'laws.FnExactLockFault', WHERE WHAT IT READS IS OF BULK AT MOST 1048576: true; the input reads as it did. -/
def fnExactLockFaultUptoRow : OpenClaim := { program := "ytfgllhomnmacfaadoor", sum := "236888f57b35cd34dbc23640cd44f7f310b5b04f147264d7c3e46be478db332b", func := "loop.example/g00789/laws.FnExactLockFault", spec := "fnExactLockFault", inPlace := ["internal/reflectlite.TypeOf"], unfollowed := true, recurses := true, named := ["loop.example/g00789/impl.errNoSuchOne", "loop.example/g00789/impl.errUnfitOwner", "loop.example/g00789/impl.errTooMany", "loop.example/g00789/impl.errIsThere", "loop.example/g00789/impl.errNobodyWaits", "loop.example/g00789/impl.errNotOwner"], ifaces := true, apart := false, laid := [("loop.example/g00789/impl.errTooMany", laid_loop_example_g00789_impl_errTooMany), ("loop.example/g00789/impl.errNoSuchOne", laid_loop_example_g00789_impl_errNoSuchOne), ("loop.example/g00789/impl.errNobodyWaits", laid_loop_example_g00789_impl_errNobodyWaits), ("loop.example/g00789/impl.errIsThere", laid_loop_example_g00789_impl_errIsThere), ("loop.example/g00789/impl.errNotOwner", laid_loop_example_g00789_impl_errNotOwner), ("loop.example/g00789/impl.errUnfitOwner", laid_loop_example_g00789_impl_errUnfitOwner)], narrowed := true }
def FnExactLockFaultUptoSaid : Prop := fnExactLockFaultUptoRow.holds Tryd.pinned (OpenSpec.upto fnExactLockFaultSpec)

/-- 'laws.FnExactQueueFault', WHERE WHAT IT READS IS OF BULK AT MOST 1048576: true; the input reads as it did. -/
def fnExactQueueFaultUptoRow : OpenClaim := { program := "ytfgllhomnmacfaadoor", sum := "236888f57b35cd34dbc23640cd44f7f310b5b04f147264d7c3e46be478db332b", func := "loop.example/g00789/laws.FnExactQueueFault", spec := "fnExactQueueFault", inPlace := ["internal/reflectlite.TypeOf"], unfollowed := true, recurses := true, named := ["loop.example/g00789/impl.errTooMany", "loop.example/g00789/impl.errNoSuchOne", "loop.example/g00789/impl.errIsThere", "loop.example/g00789/impl.errNobodyWaits", "loop.example/g00789/impl.errNotOwner"], ifaces := true, apart := false, laid := [("loop.example/g00789/impl.errTooMany", laid_loop_example_g00789_impl_errTooMany), ("loop.example/g00789/impl.errNoSuchOne", laid_loop_example_g00789_impl_errNoSuchOne), ("loop.example/g00789/impl.errNobodyWaits", laid_loop_example_g00789_impl_errNobodyWaits), ("loop.example/g00789/impl.errIsThere", laid_loop_example_g00789_impl_errIsThere), ("loop.example/g00789/impl.errNotOwner", laid_loop_example_g00789_impl_errNotOwner)], narrowed := true }
def FnExactQueueFaultUptoSaid : Prop := fnExactQueueFaultUptoRow.holds Tryd.pinned (OpenSpec.upto fnExactQueueFaultSpec)

/-- 'laws.FnExactTakeLock', WHERE WHAT IT READS IS OF BULK AT MOST 1048576: true; the input reads as it did. -/
def fnExactTakeLockUptoRow : OpenClaim := { program := "ytfgllhomnmacfaadoor", sum := "236888f57b35cd34dbc23640cd44f7f310b5b04f147264d7c3e46be478db332b", func := "loop.example/g00789/laws.FnExactTakeLock", spec := "fnExactTakeLock", inPlace := ["internal/reflectlite.TypeOf"], unfollowed := true, recurses := true, named := ["loop.example/g00789/impl.errNoSuchOne", "loop.example/g00789/impl.errUnfitOwner", "loop.example/g00789/impl.errTooMany", "loop.example/g00789/impl.errIsThere", "loop.example/g00789/impl.errNobodyWaits", "loop.example/g00789/impl.errNotOwner"], ifaces := true, apart := false, laid := [("loop.example/g00789/impl.errTooMany", laid_loop_example_g00789_impl_errTooMany), ("loop.example/g00789/impl.errNoSuchOne", laid_loop_example_g00789_impl_errNoSuchOne), ("loop.example/g00789/impl.errNobodyWaits", laid_loop_example_g00789_impl_errNobodyWaits), ("loop.example/g00789/impl.errIsThere", laid_loop_example_g00789_impl_errIsThere), ("loop.example/g00789/impl.errNotOwner", laid_loop_example_g00789_impl_errNotOwner), ("loop.example/g00789/impl.errUnfitOwner", laid_loop_example_g00789_impl_errUnfitOwner)], narrowed := true }
def FnExactTakeLockUptoSaid : Prop := fnExactTakeLockUptoRow.holds Tryd.pinned (OpenSpec.upto fnExactTakeLockSpec)

/-- 'laws.FnExactPassLock', WHERE WHAT IT READS IS OF BULK AT MOST 1048576: true; the input reads as it did. -/
def fnExactPassLockUptoRow : OpenClaim := { program := "ytfgllhomnmacfaadoor", sum := "236888f57b35cd34dbc23640cd44f7f310b5b04f147264d7c3e46be478db332b", func := "loop.example/g00789/laws.FnExactPassLock", spec := "fnExactPassLock", inPlace := ["internal/reflectlite.TypeOf"], unfollowed := true, recurses := true, named := ["loop.example/g00789/impl.errNoSuchOne", "loop.example/g00789/impl.errUnfitOwner", "loop.example/g00789/impl.errTooMany", "loop.example/g00789/impl.errIsThere", "loop.example/g00789/impl.errNobodyWaits", "loop.example/g00789/impl.errNotOwner"], ifaces := true, apart := false, laid := [("loop.example/g00789/impl.errTooMany", laid_loop_example_g00789_impl_errTooMany), ("loop.example/g00789/impl.errNoSuchOne", laid_loop_example_g00789_impl_errNoSuchOne), ("loop.example/g00789/impl.errNobodyWaits", laid_loop_example_g00789_impl_errNobodyWaits), ("loop.example/g00789/impl.errIsThere", laid_loop_example_g00789_impl_errIsThere), ("loop.example/g00789/impl.errNotOwner", laid_loop_example_g00789_impl_errNotOwner), ("loop.example/g00789/impl.errUnfitOwner", laid_loop_example_g00789_impl_errUnfitOwner)], narrowed := true }
def FnExactPassLockUptoSaid : Prop := fnExactPassLockUptoRow.holds Tryd.pinned (OpenSpec.upto fnExactPassLockSpec)

/-- 'laws.FnExactWaitQueue', WHERE WHAT IT READS IS OF BULK AT MOST 1048576: true; the input reads as it did. -/
def fnExactWaitQueueUptoRow : OpenClaim := { program := "ytfgllhomnmacfaadoor", sum := "236888f57b35cd34dbc23640cd44f7f310b5b04f147264d7c3e46be478db332b", func := "loop.example/g00789/laws.FnExactWaitQueue", spec := "fnExactWaitQueue", inPlace := ["internal/reflectlite.TypeOf"], unfollowed := true, recurses := true, named := ["loop.example/g00789/impl.errTooMany", "loop.example/g00789/impl.errNoSuchOne", "loop.example/g00789/impl.errIsThere", "loop.example/g00789/impl.errNobodyWaits", "loop.example/g00789/impl.errNotOwner"], ifaces := true, apart := false, laid := [("loop.example/g00789/impl.errTooMany", laid_loop_example_g00789_impl_errTooMany), ("loop.example/g00789/impl.errNoSuchOne", laid_loop_example_g00789_impl_errNoSuchOne), ("loop.example/g00789/impl.errNobodyWaits", laid_loop_example_g00789_impl_errNobodyWaits), ("loop.example/g00789/impl.errIsThere", laid_loop_example_g00789_impl_errIsThere), ("loop.example/g00789/impl.errNotOwner", laid_loop_example_g00789_impl_errNotOwner)], narrowed := true }
def FnExactWaitQueueUptoSaid : Prop := fnExactWaitQueueUptoRow.holds Tryd.pinned (OpenSpec.upto fnExactWaitQueueSpec)

/-- 'laws.FnExactWakeOne', WHERE WHAT IT READS IS OF BULK AT MOST 1048576: true; the input reads as it did. -/
def fnExactWakeOneUptoRow : OpenClaim := { program := "ytfgllhomnmacfaadoor", sum := "236888f57b35cd34dbc23640cd44f7f310b5b04f147264d7c3e46be478db332b", func := "loop.example/g00789/laws.FnExactWakeOne", spec := "fnExactWakeOne", inPlace := ["internal/reflectlite.TypeOf"], unfollowed := true, recurses := true, named := ["loop.example/g00789/impl.errTooMany", "loop.example/g00789/impl.errNoSuchOne", "loop.example/g00789/impl.errIsThere", "loop.example/g00789/impl.errUnfitOwner", "loop.example/g00789/impl.errNobodyWaits", "loop.example/g00789/impl.errNotOwner"], ifaces := true, apart := false, laid := [("loop.example/g00789/impl.errTooMany", laid_loop_example_g00789_impl_errTooMany), ("loop.example/g00789/impl.errNoSuchOne", laid_loop_example_g00789_impl_errNoSuchOne), ("loop.example/g00789/impl.errNobodyWaits", laid_loop_example_g00789_impl_errNobodyWaits), ("loop.example/g00789/impl.errIsThere", laid_loop_example_g00789_impl_errIsThere), ("loop.example/g00789/impl.errNotOwner", laid_loop_example_g00789_impl_errNotOwner), ("loop.example/g00789/impl.errUnfitOwner", laid_loop_example_g00789_impl_errUnfitOwner)], narrowed := true }
def FnExactWakeOneUptoSaid : Prop := fnExactWakeOneUptoRow.holds Tryd.pinned (OpenSpec.upto fnExactWakeOneSpec)

/-- 'laws.FnExactWakeAll', WHERE WHAT IT READS IS OF BULK AT MOST 1048576: true; the input reads as it did. -/
def fnExactWakeAllUptoRow : OpenClaim := { program := "ytfgllhomnmacfaadoor", sum := "236888f57b35cd34dbc23640cd44f7f310b5b04f147264d7c3e46be478db332b", func := "loop.example/g00789/laws.FnExactWakeAll", spec := "fnExactWakeAll", inPlace := ["internal/reflectlite.TypeOf"], unfollowed := true, recurses := true, named := ["loop.example/g00789/impl.errTooMany", "loop.example/g00789/impl.errNoSuchOne", "loop.example/g00789/impl.errIsThere", "loop.example/g00789/impl.errUnfitOwner", "loop.example/g00789/impl.errNobodyWaits", "loop.example/g00789/impl.errNotOwner"], ifaces := true, apart := false, laid := [("loop.example/g00789/impl.errTooMany", laid_loop_example_g00789_impl_errTooMany), ("loop.example/g00789/impl.errNoSuchOne", laid_loop_example_g00789_impl_errNoSuchOne), ("loop.example/g00789/impl.errNobodyWaits", laid_loop_example_g00789_impl_errNobodyWaits), ("loop.example/g00789/impl.errIsThere", laid_loop_example_g00789_impl_errIsThere), ("loop.example/g00789/impl.errNotOwner", laid_loop_example_g00789_impl_errNotOwner), ("loop.example/g00789/impl.errUnfitOwner", laid_loop_example_g00789_impl_errUnfitOwner)], narrowed := true }
def FnExactWakeAllUptoSaid : Prop := fnExactWakeAllUptoRow.holds Tryd.pinned (OpenSpec.upto fnExactWakeAllSpec)

end Rows
end Go.Proofs.YtfgllhomnmacfaaDoor
