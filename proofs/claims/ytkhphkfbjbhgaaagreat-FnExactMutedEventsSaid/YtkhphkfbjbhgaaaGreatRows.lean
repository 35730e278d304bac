/-
  No cell of these rows narrows 'for every input' (looked for: loops, veiled, ifaces, maps, wideKeys, modest, calm, conditions, laid).
  DERIVED. THE GIVEN ROWS OF THIS SEAT. 8 by the template 'for every input the law returns true; each argument reads behind the call as it read before'; 0 by the template 'total and deterministic' (their statements: YtkhphkfbjbhgaaaGreatTotals.lean).
  GIVEN WITH THE SEED: the statements are not yours to turn. If you find one false, say at which input.
  Laid BY PROGRAM, IN A SANDBOX (cutbox-rows.mjs): the forced cells as the released guide's own fill.sh prints them over the translation b3fb5f714969149c… (all of the seat's roots in one cut). By AI agents, Wed Nov 11 2026. No macro, syntax, notation, axiom, sorry.
-/
import Derived.Test.YtkhphkfbjbhgaaaGreatChecked
import GoSem.Claim
import GoSem.ClaimJoined
import GoSem.ClaimMapViews
import Derived.JoinedTies
import Derived.KernelRfl
namespace Go.Proofs.YtkhphkfbjbhgaaaGreat
/- THE CELL 'sum', in the pinned program and in every row, IS THE sha256 OF THE DUMP (.gsa) THAT YtkhphkfbjbhgaaaGreatProg.lean LOADS. Nothing in Lean hashes anything: it is a label: what it is worth is what the hold of that sum in a sandbox is worth. -/
noncomputable def Tryz.pinned : Pinned := { name := "ytkhphkfbjbhgaaagreat", sum := "b3fb5f714969149cb23e686b21081c4e6bd3caa9230ed7019afeb85f14bb3501", checked := Tryz.checked }
namespace Rows
def none {H : Type} : Left H := { results := [], args := [] }

/-- 'laws.FnExactWindowsOf': WHATEVER THE INPUT: true; the input reads as it did. -/
def fnExactWindowsOfSpec : ChangeSpec := { name := "fnExactWindowsOf", fn := fun _ => fun
  | [d1, d2, d3] => { results := [.lit (.bool true)], args := [d1, d2, d3] }
  | _ => none }
def fnExactWindowsOfRow : OpenClaim := { program := "ytkhphkfbjbhgaaagreat", sum := "b3fb5f714969149cb23e686b21081c4e6bd3caa9230ed7019afeb85f14bb3501", func := "loop.example/g00789/laws.FnExactWindowsOf", spec := "fnExactWindowsOf", unfollowed := true, recurses := true, apart := false }
def FnExactWindowsOfSaid : Prop := fnExactWindowsOfRow.holds Tryz.pinned (OpenSpec.ofChange fnExactWindowsOfSpec)

/-- ITS FALSE NEIGHBOUR: 'it returns false'. Refute it at one input. -/
def fnExactWindowsOfWrong : ChangeSpec := { name := "fnExactWindowsOf", fn := fun _ => fun
  | [d1, d2, d3] => { results := [.lit (.bool false)], args := [d1, d2, d3] }
  | _ => none }
def FnExactWindowsOfWrongFalsely : Prop := fnExactWindowsOfRow.holds Tryz.pinned (OpenSpec.ofChange fnExactWindowsOfWrong)

/-- 'laws.FnExactRunsOf': WHATEVER THE INPUT: true; the input reads as it did. -/
def fnExactRunsOfSpec : ChangeSpec := { name := "fnExactRunsOf", fn := fun _ => fun
  | [d1, d2, d3] => { results := [.lit (.bool true)], args := [d1, d2, d3] }
  | _ => none }
def fnExactRunsOfRow : OpenClaim := { program := "ytkhphkfbjbhgaaagreat", sum := "b3fb5f714969149cb23e686b21081c4e6bd3caa9230ed7019afeb85f14bb3501", func := "loop.example/g00789/laws.FnExactRunsOf", spec := "fnExactRunsOf", unfollowed := true, recurses := true, apart := false }
def FnExactRunsOfSaid : Prop := fnExactRunsOfRow.holds Tryz.pinned (OpenSpec.ofChange fnExactRunsOfSpec)

/-- ITS FALSE NEIGHBOUR: 'it returns false'. Refute it at one input. -/
def fnExactRunsOfWrong : ChangeSpec := { name := "fnExactRunsOf", fn := fun _ => fun
  | [d1, d2, d3] => { results := [.lit (.bool false)], args := [d1, d2, d3] }
  | _ => none }
def FnExactRunsOfWrongFalsely : Prop := fnExactRunsOfRow.holds Tryz.pinned (OpenSpec.ofChange fnExactRunsOfWrong)

/-- 'laws.FnExactMutedEvents': WHATEVER THE INPUT: true; the input reads as it did. -/
def fnExactMutedEventsSpec : ChangeSpec := { name := "fnExactMutedEvents", fn := fun _ => fun
  | [d1, d2, d3, d4] => { results := [.lit (.bool true)], args := [d1, d2, d3, d4] }
  | _ => none }
def fnExactMutedEventsRow : OpenClaim := { program := "ytkhphkfbjbhgaaagreat", sum := "b3fb5f714969149cb23e686b21081c4e6bd3caa9230ed7019afeb85f14bb3501", func := "loop.example/g00789/laws.FnExactMutedEvents", spec := "fnExactMutedEvents", unfollowed := true, recurses := true, apart := false }
def FnExactMutedEventsSaid : Prop := fnExactMutedEventsRow.holds Tryz.pinned (OpenSpec.ofChange fnExactMutedEventsSpec)

/-- ITS FALSE NEIGHBOUR: 'it returns false'. Refute it at one input. -/
def fnExactMutedEventsWrong : ChangeSpec := { name := "fnExactMutedEvents", fn := fun _ => fun
  | [d1, d2, d3, d4] => { results := [.lit (.bool false)], args := [d1, d2, d3, d4] }
  | _ => none }
def FnExactMutedEventsWrongFalsely : Prop := fnExactMutedEventsRow.holds Tryz.pinned (OpenSpec.ofChange fnExactMutedEventsWrong)

/-- 'laws.FnExactIsBalanced': WHATEVER THE INPUT: true; the input reads as it did. -/
def fnExactIsBalancedSpec : ChangeSpec := { name := "fnExactIsBalanced", fn := fun _ => fun
  | [d1, d2, d3] => { results := [.lit (.bool true)], args := [d1, d2, d3] }
  | _ => none }
def fnExactIsBalancedRow : OpenClaim := { program := "ytkhphkfbjbhgaaagreat", sum := "b3fb5f714969149cb23e686b21081c4e6bd3caa9230ed7019afeb85f14bb3501", func := "loop.example/g00789/laws.FnExactIsBalanced", spec := "fnExactIsBalanced", unfollowed := true, recurses := true, apart := false }
def FnExactIsBalancedSaid : Prop := fnExactIsBalancedRow.holds Tryz.pinned (OpenSpec.ofChange fnExactIsBalancedSpec)

/-- ITS FALSE NEIGHBOUR: 'it returns false'. Refute it at one input. -/
def fnExactIsBalancedWrong : ChangeSpec := { name := "fnExactIsBalanced", fn := fun _ => fun
  | [d1, d2, d3] => { results := [.lit (.bool false)], args := [d1, d2, d3] }
  | _ => none }
def FnExactIsBalancedWrongFalsely : Prop := fnExactIsBalancedRow.holds Tryz.pinned (OpenSpec.ofChange fnExactIsBalancedWrong)

/-- 'laws.FnExactRunKernel': WHATEVER THE INPUT: true; the input reads as it did. -/
def fnExactRunKernelSpec : ChangeSpec := { name := "fnExactRunKernel", fn := fun _ => fun
  | [d1, d2] => { results := [.lit (.bool true)], args := [d1, d2] }
  | _ => none }
def fnExactRunKernelRow : OpenClaim := { program := "ytkhphkfbjbhgaaagreat", sum := "b3fb5f714969149cb23e686b21081c4e6bd3caa9230ed7019afeb85f14bb3501", func := "loop.example/g00789/laws.FnExactRunKernel", spec := "fnExactRunKernel", unfollowed := true, recurses := true, apart := false }
def FnExactRunKernelSaid : Prop := fnExactRunKernelRow.holds Tryz.pinned (OpenSpec.ofChange fnExactRunKernelSpec)

/-- ITS FALSE NEIGHBOUR: 'it returns false'. Refute it at one input. -/
def fnExactRunKernelWrong : ChangeSpec := { name := "fnExactRunKernel", fn := fun _ => fun
  | [d1, d2] => { results := [.lit (.bool false)], args := [d1, d2] }
  | _ => none }
def FnExactRunKernelWrongFalsely : Prop := fnExactRunKernelRow.holds Tryz.pinned (OpenSpec.ofChange fnExactRunKernelWrong)

/-- 'laws.FnWindows': WHATEVER THE INPUT: true; the input reads as it did. -/
def fnWindowsSpec : ChangeSpec := { name := "fnWindows", fn := fun _ => fun
  | [d] => { results := [.lit (.bool true)], args := [d] }
  | _ => none }
def fnWindowsRow : OpenClaim := { program := "ytkhphkfbjbhgaaagreat", sum := "b3fb5f714969149cb23e686b21081c4e6bd3caa9230ed7019afeb85f14bb3501", func := "loop.example/g00789/laws.FnWindows", spec := "fnWindows", unfollowed := true, recurses := true, apart := false }
def FnWindowsSaid : Prop := fnWindowsRow.holds Tryz.pinned (OpenSpec.ofChange fnWindowsSpec)

/-- ITS FALSE NEIGHBOUR: 'it returns false'. Refute it at one input. -/
def fnWindowsWrong : ChangeSpec := { name := "fnWindows", fn := fun _ => fun
  | [d] => { results := [.lit (.bool false)], args := [d] }
  | _ => none }
def FnWindowsWrongFalsely : Prop := fnWindowsRow.holds Tryz.pinned (OpenSpec.ofChange fnWindowsWrong)

/-- 'laws.FnCalls': WHATEVER THE INPUT: true; the input reads as it did. -/
def fnCallsSpec : ChangeSpec := { name := "fnCalls", fn := fun _ => fun
  | [d] => { results := [.lit (.bool true)], args := [d] }
  | _ => none }
def fnCallsRow : OpenClaim := { program := "ytkhphkfbjbhgaaagreat", sum := "b3fb5f714969149cb23e686b21081c4e6bd3caa9230ed7019afeb85f14bb3501", func := "loop.example/g00789/laws.FnCalls", spec := "fnCalls", unfollowed := true, recurses := true, apart := false }
def FnCallsSaid : Prop := fnCallsRow.holds Tryz.pinned (OpenSpec.ofChange fnCallsSpec)

/-- ITS FALSE NEIGHBOUR: 'it returns false'. Refute it at one input. -/
def fnCallsWrong : ChangeSpec := { name := "fnCalls", fn := fun _ => fun
  | [d] => { results := [.lit (.bool false)], args := [d] }
  | _ => none }
def FnCallsWrongFalsely : Prop := fnCallsRow.holds Tryz.pinned (OpenSpec.ofChange fnCallsWrong)

/-- 'laws.FnTicks': WHATEVER THE INPUT: true; the input reads as it did. -/
def fnTicksSpec : ChangeSpec := { name := "fnTicks", fn := fun _ => fun
  | [d] => { results := [.lit (.bool true)], args := [d] }
  | _ => none }
def fnTicksRow : OpenClaim := { program := "ytkhphkfbjbhgaaagreat", sum := "b3fb5f714969149cb23e686b21081c4e6bd3caa9230ed7019afeb85f14bb3501", func := "loop.example/g00789/laws.FnTicks", spec := "fnTicks", unfollowed := true, recurses := true, apart := false }
def FnTicksSaid : Prop := fnTicksRow.holds Tryz.pinned (OpenSpec.ofChange fnTicksSpec)

/-- ITS FALSE NEIGHBOUR: 'it returns false'. Refute it at one input. -/
def fnTicksWrong : ChangeSpec := { name := "fnTicks", fn := fun _ => fun
  | [d] => { results := [.lit (.bool false)], args := [d] }
  | _ => none }
def FnTicksWrongFalsely : Prop := fnTicksRow.holds Tryz.pinned (OpenSpec.ofChange fnTicksWrong)

/- THE SECOND FORM. 'bulk': how many values and letters a reading holds, each counted each time it is reached (what is shared counts as often as it is met; a slice's spare places count too). A statement '..UptoSaid' is the law's where the arguments, and the package variables that the reading takes, are together of bulk at most 1048576: NARROWER than '..Said'. Prove '..Said' where nothing that the law and all that it calls make is longer than what came in: it says more and counts as full. Else prove '..UptoSaid'. A law counts once. -/
mutual
def uptoBulk {H : Type} : DataW H → Nat
  | .lit (.string bytes) => bytes.length + 1
  | .lit _ => 1
  | .nil => 1
  | .ptr d => uptoBulk d + 1
  | .slice elems spare => uptoBulkAll elems + uptoBulkAll spare + 1
  | .agg parts => uptoBulkAll parts + 1
  | .iface _ d => uptoBulk d + 1
  | .map entries => uptoBulkEntries entries + 1
  | .held _ => 1
def uptoBulkAll {H : Type} : List (DataW H) → Nat
  | [] => 0
  | d :: r => uptoBulk d + uptoBulkAll r
def uptoBulkEntries {H : Type} : List (Lit × DataW H) → Nat
  | [] => 0
  | x :: r => uptoBulkEntry x + uptoBulkEntries r
def uptoBulkEntry {H : Type} : Lit × DataW H → Nat
  | (.string bytes, d) => bytes.length + uptoBulk d + 1
  | (_, d) => uptoBulk d + 1
 end
def uptoSmall : (H : Type) → List (DataW H) → Bool := fun _ ds => decide (uptoBulkAll ds ≤ 1048576)
def OpenSpec.upto (s : _root_.Go.ChangeSpec) : _root_.Go.OpenSpec := { _root_.Go.OpenSpec.ofChange s with cond := some uptoSmall }

/-- 'laws.FnExactWindowsOf', WHERE WHAT IT READS IS OF BULK AT MOST 1048576: true; the input reads as it did. -/
def fnExactWindowsOfUptoRow : OpenClaim := { program := "ytkhphkfbjbhgaaagreat", sum := "b3fb5f714969149cb23e686b21081c4e6bd3caa9230ed7019afeb85f14bb3501", func := "loop.example/g00789/laws.FnExactWindowsOf", spec := "fnExactWindowsOf", unfollowed := true, recurses := true, apart := false, narrowed := true }
def FnExactWindowsOfUptoSaid : Prop := fnExactWindowsOfUptoRow.holds Tryz.pinned (OpenSpec.upto fnExactWindowsOfSpec)

/-- 'laws.FnExactRunsOf', WHERE WHAT IT READS IS OF BULK AT MOST 1048576: true; the input reads as it did. -/
def fnExactRunsOfUptoRow : OpenClaim := { program := "ytkhphkfbjbhgaaagreat", sum := "b3fb5f714969149cb23e686b21081c4e6bd3caa9230ed7019afeb85f14bb3501", func := "loop.example/g00789/laws.FnExactRunsOf", spec := "fnExactRunsOf", unfollowed := true, recurses := true, apart := false, narrowed := true }
def FnExactRunsOfUptoSaid : Prop := fnExactRunsOfUptoRow.holds Tryz.pinned (OpenSpec.upto fnExactRunsOfSpec)

/-- 'laws.FnExactMutedEvents', WHERE WHAT IT READS IS OF BULK AT MOST 1048576: true; the input reads as it did. -/
def fnExactMutedEventsUptoRow : OpenClaim := { program := "ytkhphkfbjbhgaaagreat", sum := "b3fb5f714969149cb23e686b21081c4e6bd3caa9230ed7019afeb85f14bb3501", func := "loop.example/g00789/laws.FnExactMutedEvents", spec := "fnExactMutedEvents", unfollowed := true, recurses := true, apart := false, narrowed := true }
def FnExactMutedEventsUptoSaid : Prop := fnExactMutedEventsUptoRow.holds Tryz.pinned (OpenSpec.upto fnExactMutedEventsSpec)

/-- 'laws.FnExactIsBalanced', WHERE WHAT IT READS IS OF BULK AT MOST 1048576: true; the input reads as it did. -/
def fnExactIsBalancedUptoRow : OpenClaim := { program := "ytkhphkfbjbhgaaagreat", sum := "b3fb5f714969149cb23e686b21081c4e6bd3caa9230ed7019afeb85f14bb3501", func := "loop.example/g00789/laws.FnExactIsBalanced", spec := "fnExactIsBalanced", unfollowed := true, recurses := true, apart := false, narrowed := true }
def FnExactIsBalancedUptoSaid : Prop := fnExactIsBalancedUptoRow.holds Tryz.pinned (OpenSpec.upto fnExactIsBalancedSpec)

/-- 'laws.FnExactRunKernel', WHERE WHAT IT READS IS OF BULK AT MOST 1048576: true; the input reads as it did. -/
def fnExactRunKernelUptoRow : OpenClaim := { program := "ytkhphkfbjbhgaaagreat", sum := "b3fb5f714969149cb23e686b21081c4e6bd3caa9230ed7019afeb85f14bb3501", func := "loop.example/g00789/laws.FnExactRunKernel", spec := "fnExactRunKernel", unfollowed := true, recurses := true, apart := false, narrowed := true }
def FnExactRunKernelUptoSaid : Prop := fnExactRunKernelUptoRow.holds Tryz.pinned (OpenSpec.upto fnExactRunKernelSpec)

/-- 'laws.FnWindows', WHERE WHAT IT READS IS OF BULK AT MOST 1048576: true; the input reads as it did. -/
def fnWindowsUptoRow : OpenClaim := { program := "ytkhphkfbjbhgaaagreat", sum := "b3fb5f714969149cb23e686b21081c4e6bd3caa9230ed7019afeb85f14bb3501", func := "loop.example/g00789/laws.FnWindows", spec := "fnWindows", unfollowed := true, recurses := true, apart := false, narrowed := true }
def FnWindowsUptoSaid : Prop := fnWindowsUptoRow.holds Tryz.pinned (OpenSpec.upto fnWindowsSpec)

/-- 'laws.FnCalls', WHERE WHAT IT READS IS OF BULK AT MOST 1048576: true; the input reads as it did. -/
def fnCallsUptoRow : OpenClaim := { program := "ytkhphkfbjbhgaaagreat", sum := "b3fb5f714969149cb23e686b21081c4e6bd3caa9230ed7019afeb85f14bb3501", func := "loop.example/g00789/laws.FnCalls", spec := "fnCalls", unfollowed := true, recurses := true, apart := false, narrowed := true }
def FnCallsUptoSaid : Prop := fnCallsUptoRow.holds Tryz.pinned (OpenSpec.upto fnCallsSpec)

/-- 'laws.FnTicks', WHERE WHAT IT READS IS OF BULK AT MOST 1048576: true; the input reads as it did. -/
def fnTicksUptoRow : OpenClaim := { program := "ytkhphkfbjbhgaaagreat", sum := "b3fb5f714969149cb23e686b21081c4e6bd3caa9230ed7019afeb85f14bb3501", func := "loop.example/g00789/laws.FnTicks", spec := "fnTicks", unfollowed := true, recurses := true, apart := false, narrowed := true }
def FnTicksUptoSaid : Prop := fnTicksUptoRow.holds Tryz.pinned (OpenSpec.upto fnTicksSpec)

end Rows
end Go.Proofs.YtkhphkfbjbhgaaaGreat
