/-
  No cell of these rows narrows 'for every input' (looked for: loops, veiled, ifaces, maps, wideKeys, modest, calm, conditions, laid).
  DERIVED. THE GIVEN ROWS OF THIS SEAT. 7 by the template 'for every input the law returns true; each argument reads behind the call as it read before'; 0 by the template 'total and deterministic' (their statements: YtfaamjbdffcngaaTotals.lean).
  GIVEN WITH THE SEED: the statements are not yours to turn. If you find one false, say at which input.
  Laid BY PROGRAM, IN A SANDBOX (cutbox-rows.mjs): the forced cells as the released guide's own fill.sh prints them over the translation 82cc2369a12decc7… (all of the seat's roots in one cut). By AI agents, Wed Nov 11 2026. No macro, syntax, notation, axiom, sorry.
-/
import Derived.Test.YtfaamjbdffcngaaChecked
import GoSem.Claim
import GoSem.ClaimJoined
import GoSem.ClaimMapViews
import Derived.JoinedTies
import Derived.KernelRfl
namespace Go.Proofs.Ytfaamjbdffcngaa
/- THE CELL 'sum', in the pinned program and in every row, IS THE sha256 OF THE DUMP (.gsa) THAT YtfaamjbdffcngaaProg.lean LOADS. Nothing in Lean hashes anything: it is a label: what it is worth is what the hold of that sum in a sandbox is worth. -/
noncomputable def Try.pinned : Pinned := { name := "ytfaamjbdffcngaa", sum := "82cc2369a12decc7148e4642852754bbf0bb943964b6de5d2c6b65352855f5fa", checked := Try.checked }
namespace Rows
def none {H : Type} : Left H := { results := [], args := [] }

/-- 'laws.FnHeaps': WHATEVER THE INPUT: true; the input reads as it did. -/
def fnHeapsSpec : ChangeSpec := { name := "fnHeaps", fn := fun _ => fun
  | [d] => { results := [.lit (.bool true)], args := [d] }
  | _ => none }
def fnHeapsRow : OpenClaim := { program := "ytfaamjbdffcngaa", sum := "82cc2369a12decc7148e4642852754bbf0bb943964b6de5d2c6b65352855f5fa", func := "loop.example/g00789/laws.FnHeaps", spec := "fnHeaps", unfollowed := true, recurses := true, apart := false }
def FnHeapsSaid : Prop := fnHeapsRow.holds Try.pinned (OpenSpec.ofChange fnHeapsSpec)

/-- ITS FALSE NEIGHBOUR: 'it returns false'. Refute it at one input. -/
def fnHeapsWrong : ChangeSpec := { name := "fnHeaps", fn := fun _ => fun
  | [d] => { results := [.lit (.bool false)], args := [d] }
  | _ => none }
def FnHeapsWrongFalsely : Prop := fnHeapsRow.holds Try.pinned (OpenSpec.ofChange fnHeapsWrong)

/-- 'laws.FnExactIsLess': WHATEVER THE INPUT: true; the input reads as it did. -/
def fnExactIsLessSpec : ChangeSpec := { name := "fnExactIsLess", fn := fun _ => fun
  | [d1, d2] => { results := [.lit (.bool true)], args := [d1, d2] }
  | _ => none }
def fnExactIsLessRow : OpenClaim := { program := "ytfaamjbdffcngaa", sum := "82cc2369a12decc7148e4642852754bbf0bb943964b6de5d2c6b65352855f5fa", func := "loop.example/g00789/laws.FnExactIsLess", spec := "fnExactIsLess", unfollowed := true, recurses := true, apart := false }
def FnExactIsLessSaid : Prop := fnExactIsLessRow.holds Try.pinned (OpenSpec.ofChange fnExactIsLessSpec)

/-- ITS FALSE NEIGHBOUR: 'it returns false'. Refute it at one input. -/
def fnExactIsLessWrong : ChangeSpec := { name := "fnExactIsLess", fn := fun _ => fun
  | [d1, d2] => { results := [.lit (.bool false)], args := [d1, d2] }
  | _ => none }
def FnExactIsLessWrongFalsely : Prop := fnExactIsLessRow.holds Try.pinned (OpenSpec.ofChange fnExactIsLessWrong)

/-- 'laws.FnExactHeapFault': WHATEVER THE INPUT: true; the input reads as it did. -/
def fnExactHeapFaultSpec : ChangeSpec := { name := "fnExactHeapFault", fn := fun _ => fun
  | [d] => { results := [.lit (.bool true)], args := [d] }
  | _ => none }
def fnExactHeapFaultRow : OpenClaim := { program := "ytfaamjbdffcngaa", sum := "82cc2369a12decc7148e4642852754bbf0bb943964b6de5d2c6b65352855f5fa", func := "loop.example/g00789/laws.FnExactHeapFault", spec := "fnExactHeapFault", unfollowed := true, recurses := true, apart := false }
def FnExactHeapFaultSaid : Prop := fnExactHeapFaultRow.holds Try.pinned (OpenSpec.ofChange fnExactHeapFaultSpec)

/-- ITS FALSE NEIGHBOUR: 'it returns false'. Refute it at one input. -/
def fnExactHeapFaultWrong : ChangeSpec := { name := "fnExactHeapFault", fn := fun _ => fun
  | [d] => { results := [.lit (.bool false)], args := [d] }
  | _ => none }
def FnExactHeapFaultWrongFalsely : Prop := fnExactHeapFaultRow.holds Try.pinned (OpenSpec.ofChange fnExactHeapFaultWrong)

/-- 'laws.FnExactPushHeap': WHATEVER THE INPUT: true; the input reads as it did. -/
def fnExactPushHeapSpec : ChangeSpec := { name := "fnExactPushHeap", fn := fun _ => fun
  | [d1, d2] => { results := [.lit (.bool true)], args := [d1, d2] }
  | _ => none }
def fnExactPushHeapRow : OpenClaim := { program := "ytfaamjbdffcngaa", sum := "82cc2369a12decc7148e4642852754bbf0bb943964b6de5d2c6b65352855f5fa", func := "loop.example/g00789/laws.FnExactPushHeap", spec := "fnExactPushHeap", unfollowed := true, recurses := true, apart := false }
def FnExactPushHeapSaid : Prop := fnExactPushHeapRow.holds Try.pinned (OpenSpec.ofChange fnExactPushHeapSpec)

/-- ITS FALSE NEIGHBOUR: 'it returns false'. Refute it at one input. -/
def fnExactPushHeapWrong : ChangeSpec := { name := "fnExactPushHeap", fn := fun _ => fun
  | [d1, d2] => { results := [.lit (.bool false)], args := [d1, d2] }
  | _ => none }
def FnExactPushHeapWrongFalsely : Prop := fnExactPushHeapRow.holds Try.pinned (OpenSpec.ofChange fnExactPushHeapWrong)

/-- 'laws.FnExactPopHeap': WHATEVER THE INPUT: true; the input reads as it did. -/
def fnExactPopHeapSpec : ChangeSpec := { name := "fnExactPopHeap", fn := fun _ => fun
  | [d] => { results := [.lit (.bool true)], args := [d] }
  | _ => none }
def fnExactPopHeapRow : OpenClaim := { program := "ytfaamjbdffcngaa", sum := "82cc2369a12decc7148e4642852754bbf0bb943964b6de5d2c6b65352855f5fa", func := "loop.example/g00789/laws.FnExactPopHeap", spec := "fnExactPopHeap", unfollowed := true, recurses := true, apart := false }
def FnExactPopHeapSaid : Prop := fnExactPopHeapRow.holds Try.pinned (OpenSpec.ofChange fnExactPopHeapSpec)

/-- ITS FALSE NEIGHBOUR: 'it returns false'. Refute it at one input. -/
def fnExactPopHeapWrong : ChangeSpec := { name := "fnExactPopHeap", fn := fun _ => fun
  | [d] => { results := [.lit (.bool false)], args := [d] }
  | _ => none }
def FnExactPopHeapWrongFalsely : Prop := fnExactPopHeapRow.holds Try.pinned (OpenSpec.ofChange fnExactPopHeapWrong)

/-- 'laws.FnExactHeapOf': WHATEVER THE INPUT: true; the input reads as it did. -/
def fnExactHeapOfSpec : ChangeSpec := { name := "fnExactHeapOf", fn := fun _ => fun
  | [d] => { results := [.lit (.bool true)], args := [d] }
  | _ => none }
def fnExactHeapOfRow : OpenClaim := { program := "ytfaamjbdffcngaa", sum := "82cc2369a12decc7148e4642852754bbf0bb943964b6de5d2c6b65352855f5fa", func := "loop.example/g00789/laws.FnExactHeapOf", spec := "fnExactHeapOf", unfollowed := true, recurses := true, apart := false }
def FnExactHeapOfSaid : Prop := fnExactHeapOfRow.holds Try.pinned (OpenSpec.ofChange fnExactHeapOfSpec)

/-- ITS FALSE NEIGHBOUR: 'it returns false'. Refute it at one input. -/
def fnExactHeapOfWrong : ChangeSpec := { name := "fnExactHeapOf", fn := fun _ => fun
  | [d] => { results := [.lit (.bool false)], args := [d] }
  | _ => none }
def FnExactHeapOfWrongFalsely : Prop := fnExactHeapOfRow.holds Try.pinned (OpenSpec.ofChange fnExactHeapOfWrong)

/-- 'laws.FnExactSortedOf': WHATEVER THE INPUT: true; the input reads as it did. -/
def fnExactSortedOfSpec : ChangeSpec := { name := "fnExactSortedOf", fn := fun _ => fun
  | [d] => { results := [.lit (.bool true)], args := [d] }
  | _ => none }
def fnExactSortedOfRow : OpenClaim := { program := "ytfaamjbdffcngaa", sum := "82cc2369a12decc7148e4642852754bbf0bb943964b6de5d2c6b65352855f5fa", func := "loop.example/g00789/laws.FnExactSortedOf", spec := "fnExactSortedOf", unfollowed := true, recurses := true, apart := false }
def FnExactSortedOfSaid : Prop := fnExactSortedOfRow.holds Try.pinned (OpenSpec.ofChange fnExactSortedOfSpec)

/-- ITS FALSE NEIGHBOUR: 'it returns false'. Refute it at one input. -/
def fnExactSortedOfWrong : ChangeSpec := { name := "fnExactSortedOf", fn := fun _ => fun
  | [d] => { results := [.lit (.bool false)], args := [d] }
  | _ => none }
def FnExactSortedOfWrongFalsely : Prop := fnExactSortedOfRow.holds Try.pinned (OpenSpec.ofChange fnExactSortedOfWrong)

/- THE SECOND FORM. 'bulk': how many values and letters a reading holds, each counted each time it is reached (what is shared counts as often as it is met; a slice's spare places count too). A statement '..UptoSaid' is the law's where the arguments, and the package variables that the reading takes, are together of bulk at most 1048576: NARROWER than '..Said'. Prove '..Said' where nothing that the law and all that it calls make is longer than what came in: it says more and counts as full. Else prove '..UptoSaid'. A law counts once. -/
mutual
def uptoBulk {H : Type} : DataW H → Nat
  | .lit (.string bytes) => bytes.length + 1
  | .lit _ => 1
  | .nil => 1
  | .ptr d => uptoBulk d + 1
  | .slice elems spare => uptoBulkAll elems + uptoBulkAll spare + 1
  | .agg parts => uptoBulkAll parts + 1
  | .iface _ d => uptoBulk d + 1
  | .map entries => uptoBulkEntries entries + 1
  | .held _ => 1
def uptoBulkAll {H : Type} : List (DataW H) → Nat
  | [] => 0
  | d :: r => uptoBulk d + uptoBulkAll r
def uptoBulkEntries {H : Type} : List (Lit × DataW H) → Nat
  | [] => 0
  | x :: r => uptoBulkEntry x + uptoBulkEntries r
def uptoBulkEntry {H : Type} : Lit × DataW H → Nat
  | (.string bytes, d) => bytes.length + uptoBulk d + 1
  | (_, d) => uptoBulk d + 1
 end
def uptoSmall : (H : Type) → List (DataW H) → Bool := fun _ ds => decide (uptoBulkAll ds ≤ 1048576)
def OpenSpec.upto (s : _root_.Go.ChangeSpec) : _root_.Go.OpenSpec := { _root_.Go.OpenSpec.ofChange s with cond := some uptoSmall }

/-- 'laws.FnHeaps', WHERE WHAT IT READS IS OF BULK AT MOST 1048576: true; the input reads as it did. -/
def fnHeapsUptoRow : OpenClaim := { program := "ytfaamjbdffcngaa", sum := "82cc2369a12decc7148e4642852754bbf0bb943964b6de5d2c6b65352855f5fa", func := "loop.example/g00789/laws.FnHeaps", spec := "fnHeaps", unfollowed := true, recurses := true, apart := false, narrowed := true }
def FnHeapsUptoSaid : Prop := fnHeapsUptoRow.holds Try.pinned (OpenSpec.upto fnHeapsSpec)

/-- 'laws.FnExactIsLess', WHERE WHAT IT READS IS OF BULK AT MOST 1048576: true; the input reads as it did. -/
def fnExactIsLessUptoRow : OpenClaim := { program := "ytfaamjbdffcngaa", sum := "82cc2369a12decc7148e4642852754bbf0bb943964b6de5d2c6b65352855f5fa", func := "loop.example/g00789/laws.FnExactIsLess", spec := "fnExactIsLess", unfollowed := true, recurses := true, apart := false, narrowed := true }
def FnExactIsLessUptoSaid : Prop := fnExactIsLessUptoRow.holds Try.pinned (OpenSpec.upto fnExactIsLessSpec)

/-- 'laws.FnExactHeapFault', WHERE WHAT IT READS IS OF BULK AT MOST 1048576: true; the input reads as it did. -/
def fnExactHeapFaultUptoRow : OpenClaim := { program := "ytfaamjbdffcngaa", sum := "82cc2369a12decc7148e4642852754bbf0bb943964b6de5d2c6b65352855f5fa", func := "loop.example/g00789/laws.FnExactHeapFault", spec := "fnExactHeapFault", unfollowed := true, recurses := true, apart := false, narrowed := true }
def FnExactHeapFaultUptoSaid : Prop := fnExactHeapFaultUptoRow.holds Try.pinned (OpenSpec.upto fnExactHeapFaultSpec)

/-- 'laws.FnExactPushHeap', WHERE WHAT IT READS IS OF BULK AT MOST 1048576: true; the input reads as it did. -/
def fnExactPushHeapUptoRow : OpenClaim := { program := "ytfaamjbdffcngaa", sum := "82cc2369a12decc7148e4642852754bbf0bb943964b6de5d2c6b65352855f5fa", func := "loop.example/g00789/laws.FnExactPushHeap", spec := "fnExactPushHeap", unfollowed := true, recurses := true, apart := false, narrowed := true }
def FnExactPushHeapUptoSaid : Prop := fnExactPushHeapUptoRow.holds Try.pinned (OpenSpec.upto fnExactPushHeapSpec)

/-- 'laws.FnExactPopHeap', WHERE WHAT IT READS IS OF BULK AT MOST 1048576: true; the input reads as it did. -/
def fnExactPopHeapUptoRow : OpenClaim := { program := "ytfaamjbdffcngaa", sum := "82cc2369a12decc7148e4642852754bbf0bb943964b6de5d2c6b65352855f5fa", func := "loop.example/g00789/laws.FnExactPopHeap", spec := "fnExactPopHeap", unfollowed := true, recurses := true, apart := false, narrowed := true }
def FnExactPopHeapUptoSaid : Prop := fnExactPopHeapUptoRow.holds Try.pinned (OpenSpec.upto fnExactPopHeapSpec)

/-- 'laws.FnExactHeapOf', WHERE WHAT IT READS IS OF BULK AT MOST 1048576: true; the input reads as it did. -/
def fnExactHeapOfUptoRow : OpenClaim := { program := "ytfaamjbdffcngaa", sum := "82cc2369a12decc7148e4642852754bbf0bb943964b6de5d2c6b65352855f5fa", func := "loop.example/g00789/laws.FnExactHeapOf", spec := "fnExactHeapOf", unfollowed := true, recurses := true, apart := false, narrowed := true }
def FnExactHeapOfUptoSaid : Prop := fnExactHeapOfUptoRow.holds Try.pinned (OpenSpec.upto fnExactHeapOfSpec)

/-- 'laws.FnExactSortedOf', WHERE WHAT IT READS IS OF BULK AT MOST 1048576: true; the input reads as it did. -/
def fnExactSortedOfUptoRow : OpenClaim := { program := "ytfaamjbdffcngaa", sum := "82cc2369a12decc7148e4642852754bbf0bb943964b6de5d2c6b65352855f5fa", func := "loop.example/g00789/laws.FnExactSortedOf", spec := "fnExactSortedOf", unfollowed := true, recurses := true, apart := false, narrowed := true }
def FnExactSortedOfUptoSaid : Prop := fnExactSortedOfUptoRow.holds Try.pinned (OpenSpec.upto fnExactSortedOfSpec)

end Rows
end Go.Proofs.Ytfaamjbdffcngaa
