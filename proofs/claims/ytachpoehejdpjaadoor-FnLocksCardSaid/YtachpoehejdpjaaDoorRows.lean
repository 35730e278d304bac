/-
  NARROWER THAN 'FOR EVERY INPUT', by the rows' own cells (each row's printed sentence says how): FnLocks: ifaces, laid · FnWakes: ifaces, laid.
  DERIVED. THE GIVEN ROWS OF THIS SEAT. 2 by the template 'for every input the law returns true; each argument reads behind the call as it read before'; 0 by the template 'total and deterministic' (their statements: YtachpoehejdpjaaDoorTotals.lean).
  GIVEN WITH THE SEED: the statements are not yours to turn. If you find one false, say at which input.
  Laid BY PROGRAM, IN A SANDBOX (cutbox-rows.mjs): the forced cells as the released guide's own fill.sh prints them over the translation 54b22658d695266e… (all of the seat's roots in one cut). By AI agents, Wed Nov 11 2026. No macro, syntax, notation, axiom, sorry.
-/
import Derived.Test.YtachpoehejdpjaaDoorChecked
import GoSem.Claim
import GoSem.ClaimJoined
import GoSem.ClaimMapViews
import Derived.JoinedTies
import Derived.KernelRfl
namespace Go.Proofs.YtachpoehejdpjaaDoor
/- THE CELL 'sum', in the pinned program and in every row, IS THE sha256 OF THE DUMP (.gsa) THAT YtachpoehejdpjaaDoorProg.lean LOADS. Nothing in Lean hashes anything: it is a label: what it is worth is what the hold of that sum in a sandbox is worth. -/
noncomputable def Tryd.pinned : Pinned := { name := "ytachpoehejdpjaadoor", sum := "54b22658d695266e7417e44e4a0e2b2f9d282c81d7926bb44275c6577815d8b2", checked := Tryd.checked }
namespace Rows
def none {H : Type} : Left H := { results := [], args := [] }

/- WHAT THE LISTED PACKAGE-LEVEL VARIABLES READ AS WHEN THE CALL BEGINS. Each datum BY PROGRAM (the guide's laid-datum.mjs) off the statement by which the dump's own 'gosem.cut.vars' lays the variable. In a bare row this is a premise. The card (YtachpoehejdpjaaDoorCards.lean) ties it to the program's text. -/
def laid_loop_example_g00789_impl_errTooMany {H : Type} : DataW H := .iface "*errors.errorString" (.ptr (.agg [.lit (.string [116, 111, 111, 32, 109, 97, 110, 121, 32, 119, 97, 105, 116])]))
def laid_loop_example_g00789_impl_errNoSuchOne {H : Type} : DataW H := .iface "*errors.errorString" (.ptr (.agg [.lit (.string [116, 104, 101, 114, 101, 32, 105, 115, 32, 110, 111, 32, 115, 117, 99, 104, 32, 116, 104, 114, 101, 97, 100])]))
def laid_loop_example_g00789_impl_errNobodyWaits {H : Type} : DataW H := .iface "*errors.errorString" (.ptr (.agg [.lit (.string [110, 111, 98, 111, 100, 121, 32, 119, 97, 105, 116, 115])]))
def laid_loop_example_g00789_impl_errIsThere {H : Type} : DataW H := .iface "*errors.errorString" (.ptr (.agg [.lit (.string [105, 116, 32, 111, 119, 110, 115, 32, 116, 104, 101, 32, 108, 111, 99, 107, 44, 32, 111, 114, 32, 119, 97, 105, 116, 115, 32, 97, 108, 114, 101, 97, 100, 121])]))
def laid_loop_example_g00789_impl_errNotOwner {H : Type} : DataW H := .iface "*errors.errorString" (.ptr (.agg [.lit (.string [105, 116, 32, 100, 111, 101, 115, 32, 110, 111, 116, 32, 111, 119, 110, 32, 116, 104, 101, 32, 108, 111, 99, 107])]))
def laid_loop_example_g00789_impl_errUnfitOwner {H : Type} : DataW H := .iface "*errors.errorString" (.ptr (.agg [.lit (.string [116, 104, 101, 32, 111, 119, 110, 101, 114, 32, 100, 111, 101, 115, 32, 110, 111, 116, 32, 102, 105, 116, 32, 116, 111, 32, 116, 104, 111, 115, 101, 32, 116, 104, 97, 116, 32, 119, 97, 105, 116])]))

/-- 'laws.FnLocks': WHATEVER THE INPUT: true; the input reads as it did. -/
def fnLocksSpec : ChangeSpec := { name := "fnLocks", vars := ["loop.example/g00789/impl.errNoSuchOne", "loop.example/g00789/impl.errUnfitOwner", "loop.example/g00789/impl.errTooMany", "loop.example/g00789/impl.errIsThere", "loop.example/g00789/impl.errNobodyWaits", "loop.example/g00789/impl.errNotOwner"], fn := fun _ => fun
  | [d, g1, g2, g3, g4, g5, g6] => { results := [.lit (.bool true)], args := [d], vars := [g1, g2, g3, g4, g5, g6] }
  | _ => none }
def fnLocksRow : OpenClaim := { program := "ytachpoehejdpjaadoor", sum := "54b22658d695266e7417e44e4a0e2b2f9d282c81d7926bb44275c6577815d8b2", func := "loop.example/g00789/laws.FnLocks", spec := "fnLocks", inPlace := ["internal/reflectlite.TypeOf"], unfollowed := true, recurses := true, named := ["loop.example/g00789/impl.errNoSuchOne", "loop.example/g00789/impl.errUnfitOwner", "loop.example/g00789/impl.errTooMany", "loop.example/g00789/impl.errIsThere", "loop.example/g00789/impl.errNobodyWaits", "loop.example/g00789/impl.errNotOwner"], ifaces := true, apart := false, laid := [("loop.example/g00789/impl.errTooMany", laid_loop_example_g00789_impl_errTooMany), ("loop.example/g00789/impl.errNoSuchOne", laid_loop_example_g00789_impl_errNoSuchOne), ("loop.example/g00789/impl.errNobodyWaits", laid_loop_example_g00789_impl_errNobodyWaits), ("loop.example/g00789/impl.errIsThere", laid_loop_example_g00789_impl_errIsThere), ("loop.example/g00789/impl.errNotOwner", laid_loop_example_g00789_impl_errNotOwner), ("loop.example/g00789/impl.errUnfitOwner", laid_loop_example_g00789_impl_errUnfitOwner)] }
def FnLocksSaid : Prop := fnLocksRow.holds Tryd.pinned (OpenSpec.ofChange fnLocksSpec)

/-- ITS FALSE NEIGHBOUR: 'it returns false'. Refute it at one input. -/
def fnLocksWrong : ChangeSpec := { name := "fnLocks", vars := ["loop.example/g00789/impl.errNoSuchOne", "loop.example/g00789/impl.errUnfitOwner", "loop.example/g00789/impl.errTooMany", "loop.example/g00789/impl.errIsThere", "loop.example/g00789/impl.errNobodyWaits", "loop.example/g00789/impl.errNotOwner"], fn := fun _ => fun
  | [d, g1, g2, g3, g4, g5, g6] => { results := [.lit (.bool false)], args := [d], vars := [g1, g2, g3, g4, g5, g6] }
  | _ => none }
def FnLocksWrongFalsely : Prop := fnLocksRow.holds Tryd.pinned (OpenSpec.ofChange fnLocksWrong)

/-- 'laws.FnWakes': WHATEVER THE INPUT: true; the input reads as it did. -/
def fnWakesSpec : ChangeSpec := { name := "fnWakes", vars := ["loop.example/g00789/impl.errTooMany", "loop.example/g00789/impl.errNoSuchOne", "loop.example/g00789/impl.errIsThere", "loop.example/g00789/impl.errUnfitOwner", "loop.example/g00789/impl.errNobodyWaits", "loop.example/g00789/impl.errNotOwner"], fn := fun _ => fun
  | [d, g1, g2, g3, g4, g5, g6] => { results := [.lit (.bool true)], args := [d], vars := [g1, g2, g3, g4, g5, g6] }
  | _ => none }
def fnWakesRow : OpenClaim := { program := "ytachpoehejdpjaadoor", sum := "54b22658d695266e7417e44e4a0e2b2f9d282c81d7926bb44275c6577815d8b2", func := "loop.example/g00789/laws.FnWakes", spec := "fnWakes", inPlace := ["internal/reflectlite.TypeOf"], unfollowed := true, recurses := true, named := ["loop.example/g00789/impl.errTooMany", "loop.example/g00789/impl.errNoSuchOne", "loop.example/g00789/impl.errIsThere", "loop.example/g00789/impl.errUnfitOwner", "loop.example/g00789/impl.errNobodyWaits", "loop.example/g00789/impl.errNotOwner"], ifaces := true, apart := false, laid := [("loop.example/g00789/impl.errTooMany", laid_loop_example_g00789_impl_errTooMany), ("loop.example/g00789/impl.errNoSuchOne", laid_loop_example_g00789_impl_errNoSuchOne), ("loop.example/g00789/impl.errNobodyWaits", laid_loop_example_g00789_impl_errNobodyWaits), ("loop.example/g00789/impl.errIsThere", laid_loop_example_g00789_impl_errIsThere), ("loop.example/g00789/impl.errNotOwner", laid_loop_example_g00789_impl_errNotOwner), ("loop.example/g00789/impl.errUnfitOwner", laid_loop_example_g00789_impl_errUnfitOwner)] }
def FnWakesSaid : Prop := fnWakesRow.holds Tryd.pinned (OpenSpec.ofChange fnWakesSpec)

/-- ITS FALSE NEIGHBOUR: 'it returns false'. Refute it at one input. -/
def fnWakesWrong : ChangeSpec := { name := "fnWakes", vars := ["loop.example/g00789/impl.errTooMany", "loop.example/g00789/impl.errNoSuchOne", "loop.example/g00789/impl.errIsThere", "loop.example/g00789/impl.errUnfitOwner", "loop.example/g00789/impl.errNobodyWaits", "loop.example/g00789/impl.errNotOwner"], fn := fun _ => fun
  | [d, g1, g2, g3, g4, g5, g6] => { results := [.lit (.bool false)], args := [d], vars := [g1, g2, g3, g4, g5, g6] }
  | _ => none }
def FnWakesWrongFalsely : Prop := fnWakesRow.holds Tryd.pinned (OpenSpec.ofChange fnWakesWrong)

/- THE SECOND FORM. 'bulk': how many values and letters a reading holds, each counted each time it is reached (what is shared counts as often as it is met; a slice's spare places count too). A statement '..UptoSaid' is the law's where the arguments, and the package variables that the reading takes, are together of bulk at most 1048576: NARROWER than '..Said'. Prove '..Said' where nothing that the law and all that it calls make is longer than what came in: it says more and counts as full. Else prove '..UptoSaid'. A law counts once. -/
mutual
def uptoBulk {H : Type} : DataW H → Nat
  | .lit (.string bytes) => bytes.length + 1
  | .lit _ => 1
  | .nil => 1
  | .ptr d => uptoBulk d + 1
  | .slice elems spare => uptoBulkAll elems + uptoBulkAll spare + 1
  | .agg parts => uptoBulkAll parts + 1
  | .iface _ d => uptoBulk d + 1
  | .map entries => uptoBulkEntries entries + 1
  | .held _ => 1
def uptoBulkAll {H : Type} : List (DataW H) → Nat
  | [] => 0
  | d :: r => uptoBulk d + uptoBulkAll r
def uptoBulkEntries {H : Type} : List (Lit × DataW H) → Nat
  | [] => 0
  | x :: r => uptoBulkEntry x + uptoBulkEntries r
def uptoBulkEntry {H : Type} : Lit × DataW H → Nat
  | (.string bytes, d) => bytes.length + uptoBulk d + 1
  | (_, d) => uptoBulk d + 1
 end
def uptoSmall : (H : Type) → List (DataW H) → Bool := fun _ ds => decide (uptoBulkAll ds ≤ 1048576)
def OpenSpec.upto (s : _root_.Go.ChangeSpec) : _root_.Go.OpenSpec := { _root_.Go.OpenSpec.ofChange s with cond := some uptoSmall }

/-- 'laws.FnLocks', WHERE WHAT IT READS IS OF BULK AT MOST 1048576: true; the input reads as it did. -/
def fnLocksUptoRow : OpenClaim := { program := "ytachpoehejdpjaadoor", sum := "54b22658d695266e7417e44e4a0e2b2f9d282c81d7926bb44275c6577815d8b2", func := "loop.example/g00789/laws.FnLocks", spec := "fnLocks", inPlace := ["internal/reflectlite.TypeOf"], unfollowed := true, recurses := true, named := ["loop.example/g00789/impl.errNoSuchOne", "loop.example/g00789/impl.errUnfitOwner", "loop.example/g00789/impl.errTooMany", "loop.example/g00789/impl.errIsThere", "loop.example/g00789/impl.errNobodyWaits", "loop.example/g00789/impl.errNotOwner"], ifaces := true, apart := false, laid := [("loop.example/g00789/impl.errTooMany", laid_loop_example_g00789_impl_errTooMany), ("loop.example/g00789/impl.errNoSuchOne", laid_loop_example_g00789_impl_errNoSuchOne), ("loop.example/g00789/impl.errNobodyWaits", laid_loop_example_g00789_impl_errNobodyWaits), ("loop.example/g00789/impl.errIsThere", laid_loop_example_g00789_impl_errIsThere), ("loop.example/g00789/impl.errNotOwner", laid_loop_example_g00789_impl_errNotOwner), ("loop.example/g00789/impl.errUnfitOwner", laid_loop_example_g00789_impl_errUnfitOwner)], narrowed := true }
def FnLocksUptoSaid : Prop := fnLocksUptoRow.holds Tryd.pinned (OpenSpec.upto fnLocksSpec)

/-- 'laws.FnWakes', WHERE WHAT IT READS IS OF BULK AT MOST 1048576: true; the input reads as it did. -/
def fnWakesUptoRow : OpenClaim := { program := "ytachpoehejdpjaadoor", sum := "54b22658d695266e7417e44e4a0e2b2f9d282c81d7926bb44275c6577815d8b2", func := "loop.example/g00789/laws.FnWakes", spec := "fnWakes", inPlace := ["internal/reflectlite.TypeOf"], unfollowed := true, recurses := true, named := ["loop.example/g00789/impl.errTooMany", "loop.example/g00789/impl.errNoSuchOne", "loop.example/g00789/impl.errIsThere", "loop.example/g00789/impl.errUnfitOwner", "loop.example/g00789/impl.errNobodyWaits", "loop.example/g00789/impl.errNotOwner"], ifaces := true, apart := false, laid := [("loop.example/g00789/impl.errTooMany", laid_loop_example_g00789_impl_errTooMany), ("loop.example/g00789/impl.errNoSuchOne", laid_loop_example_g00789_impl_errNoSuchOne), ("loop.example/g00789/impl.errNobodyWaits", laid_loop_example_g00789_impl_errNobodyWaits), ("loop.example/g00789/impl.errIsThere", laid_loop_example_g00789_impl_errIsThere), ("loop.example/g00789/impl.errNotOwner", laid_loop_example_g00789_impl_errNotOwner), ("loop.example/g00789/impl.errUnfitOwner", laid_loop_example_g00789_impl_errUnfitOwner)], narrowed := true }
def FnWakesUptoSaid : Prop := fnWakesUptoRow.holds Tryd.pinned (OpenSpec.upto fnWakesSpec)

end Rows
end Go.Proofs.YtachpoehejdpjaaDoor
