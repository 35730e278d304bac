/-
  No cell of these rows narrows 'for every input' (looked for: loops, veiled, ifaces, maps, wideKeys, modest, calm, conditions, laid).
  DERIVED. THE GIVEN ROWS OF THIS SEAT. 11 by the template 'for every input the law returns true; each argument reads behind the call as it read before'; 0 by the template 'total and deterministic' (their statements: YthadhpmhaldfmaaTotals.lean).
  GIVEN WITH THE SEED: the statements are not yours to turn. If you find one false, say at which input.
  Laid BY PROGRAM, IN A SANDBOX (cutbox-rows.mjs): the forced cells as the released guide's own fill.sh prints them over the translation 37ad207a95ad7ad0… (all of the seat's roots in one cut). By AI agents, Wed Nov 11 2026. No macro, syntax, notation, axiom, sorry.
-/
import Derived.Test.YthadhpmhaldfmaaChecked
import GoSem.Claim
import GoSem.ClaimJoined
import GoSem.ClaimMapViews
import Derived.JoinedTies
import Derived.KernelRfl
namespace Go.Proofs.Ythadhpmhaldfmaa
/- THE CELL 'sum', in the pinned program and in every row, IS THE sha256 OF THE DUMP (.gsa) THAT YthadhpmhaldfmaaProg.lean LOADS. Nothing in Lean hashes anything: it is a label: what it is worth is what the hold of that sum in a sandbox is worth. -/
noncomputable def Try.pinned : Pinned := { name := "ythadhpmhaldfmaa", sum := "37ad207a95ad7ad015c5214423daf4730674cb1d4015ea2fe70090e68b7934a5", checked := Try.checked }
namespace Rows
def none {H : Type} : Left H := { results := [], args := [] }

/-- 'laws.FnHeaps': WHATEVER THE INPUT: true; the input reads as it did. -/
def fnHeapsSpec : ChangeSpec := { name := "fnHeaps", fn := fun _ => fun
  | [d] => { results := [.lit (.bool true)], args := [d] }
  | _ => none }
def fnHeapsRow : OpenClaim := { program := "ythadhpmhaldfmaa", sum := "37ad207a95ad7ad015c5214423daf4730674cb1d4015ea2fe70090e68b7934a5", func := "loop.example/g00789/laws.FnHeaps", spec := "fnHeaps", unfollowed := true, recurses := true, apart := false }
def FnHeapsSaid : Prop := fnHeapsRow.holds Try.pinned (OpenSpec.ofChange fnHeapsSpec)

/-- ITS FALSE NEIGHBOUR: 'it returns false'. Refute it at one input. -/
def fnHeapsWrong : ChangeSpec := { name := "fnHeaps", fn := fun _ => fun
  | [d] => { results := [.lit (.bool false)], args := [d] }
  | _ => none }
def FnHeapsWrongFalsely : Prop := fnHeapsRow.holds Try.pinned (OpenSpec.ofChange fnHeapsWrong)

/-- 'laws.FnScheds': WHATEVER THE INPUT: true; the input reads as it did. -/
def fnSchedsSpec : ChangeSpec := { name := "fnScheds", fn := fun _ => fun
  | [d] => { results := [.lit (.bool true)], args := [d] }
  | _ => none }
def fnSchedsRow : OpenClaim := { program := "ythadhpmhaldfmaa", sum := "37ad207a95ad7ad015c5214423daf4730674cb1d4015ea2fe70090e68b7934a5", func := "loop.example/g00789/laws.FnScheds", spec := "fnScheds", unfollowed := true, recurses := true, apart := false }
def FnSchedsSaid : Prop := fnSchedsRow.holds Try.pinned (OpenSpec.ofChange fnSchedsSpec)

/-- ITS FALSE NEIGHBOUR: 'it returns false'. Refute it at one input. -/
def fnSchedsWrong : ChangeSpec := { name := "fnScheds", fn := fun _ => fun
  | [d] => { results := [.lit (.bool false)], args := [d] }
  | _ => none }
def FnSchedsWrongFalsely : Prop := fnSchedsRow.holds Try.pinned (OpenSpec.ofChange fnSchedsWrong)

/-- 'laws.FnPicks': WHATEVER THE INPUT: true; the input reads as it did. -/
def fnPicksSpec : ChangeSpec := { name := "fnPicks", fn := fun _ => fun
  | [d] => { results := [.lit (.bool true)], args := [d] }
  | _ => none }
def fnPicksRow : OpenClaim := { program := "ythadhpmhaldfmaa", sum := "37ad207a95ad7ad015c5214423daf4730674cb1d4015ea2fe70090e68b7934a5", func := "loop.example/g00789/laws.FnPicks", spec := "fnPicks", unfollowed := true, recurses := true, apart := false }
def FnPicksSaid : Prop := fnPicksRow.holds Try.pinned (OpenSpec.ofChange fnPicksSpec)

/-- ITS FALSE NEIGHBOUR: 'it returns false'. Refute it at one input. -/
def fnPicksWrong : ChangeSpec := { name := "fnPicks", fn := fun _ => fun
  | [d] => { results := [.lit (.bool false)], args := [d] }
  | _ => none }
def FnPicksWrongFalsely : Prop := fnPicksRow.holds Try.pinned (OpenSpec.ofChange fnPicksWrong)

/-- 'laws.FnExactStrideOf': WHATEVER THE INPUT: true; the input reads as it did. -/
def fnExactStrideOfSpec : ChangeSpec := { name := "fnExactStrideOf", fn := fun _ => fun
  | [d] => { results := [.lit (.bool true)], args := [d] }
  | _ => none }
def fnExactStrideOfRow : OpenClaim := { program := "ythadhpmhaldfmaa", sum := "37ad207a95ad7ad015c5214423daf4730674cb1d4015ea2fe70090e68b7934a5", func := "loop.example/g00789/laws.FnExactStrideOf", spec := "fnExactStrideOf", apart := false }
def FnExactStrideOfSaid : Prop := fnExactStrideOfRow.holds Try.pinned (OpenSpec.ofChange fnExactStrideOfSpec)

/-- ITS FALSE NEIGHBOUR: 'it returns false'. Refute it at one input. -/
def fnExactStrideOfWrong : ChangeSpec := { name := "fnExactStrideOf", fn := fun _ => fun
  | [d] => { results := [.lit (.bool false)], args := [d] }
  | _ => none }
def FnExactStrideOfWrongFalsely : Prop := fnExactStrideOfRow.holds Try.pinned (OpenSpec.ofChange fnExactStrideOfWrong)

/-- 'laws.FnExactSchedFault': WHATEVER THE INPUT: true; the input reads as it did. -/
def fnExactSchedFaultSpec : ChangeSpec := { name := "fnExactSchedFault", fn := fun _ => fun
  | [d] => { results := [.lit (.bool true)], args := [d] }
  | _ => none }
def fnExactSchedFaultRow : OpenClaim := { program := "ythadhpmhaldfmaa", sum := "37ad207a95ad7ad015c5214423daf4730674cb1d4015ea2fe70090e68b7934a5", func := "loop.example/g00789/laws.FnExactSchedFault", spec := "fnExactSchedFault", unfollowed := true, recurses := true, apart := false }
def FnExactSchedFaultSaid : Prop := fnExactSchedFaultRow.holds Try.pinned (OpenSpec.ofChange fnExactSchedFaultSpec)

/-- ITS FALSE NEIGHBOUR: 'it returns false'. Refute it at one input. -/
def fnExactSchedFaultWrong : ChangeSpec := { name := "fnExactSchedFault", fn := fun _ => fun
  | [d] => { results := [.lit (.bool false)], args := [d] }
  | _ => none }
def FnExactSchedFaultWrongFalsely : Prop := fnExactSchedFaultRow.holds Try.pinned (OpenSpec.ofChange fnExactSchedFaultWrong)

/-- 'laws.FnExactJoinSched': WHATEVER THE INPUT: true; the input reads as it did. -/
def fnExactJoinSchedSpec : ChangeSpec := { name := "fnExactJoinSched", fn := fun _ => fun
  | [d1, d2, d3, d4] => { results := [.lit (.bool true)], args := [d1, d2, d3, d4] }
  | _ => none }
def fnExactJoinSchedRow : OpenClaim := { program := "ythadhpmhaldfmaa", sum := "37ad207a95ad7ad015c5214423daf4730674cb1d4015ea2fe70090e68b7934a5", func := "loop.example/g00789/laws.FnExactJoinSched", spec := "fnExactJoinSched", unfollowed := true, recurses := true, apart := false }
def FnExactJoinSchedSaid : Prop := fnExactJoinSchedRow.holds Try.pinned (OpenSpec.ofChange fnExactJoinSchedSpec)

/-- ITS FALSE NEIGHBOUR: 'it returns false'. Refute it at one input. -/
def fnExactJoinSchedWrong : ChangeSpec := { name := "fnExactJoinSched", fn := fun _ => fun
  | [d1, d2, d3, d4] => { results := [.lit (.bool false)], args := [d1, d2, d3, d4] }
  | _ => none }
def FnExactJoinSchedWrongFalsely : Prop := fnExactJoinSchedRow.holds Try.pinned (OpenSpec.ofChange fnExactJoinSchedWrong)

/-- 'laws.FnExactLeaveSched': WHATEVER THE INPUT: true; the input reads as it did. -/
def fnExactLeaveSchedSpec : ChangeSpec := { name := "fnExactLeaveSched", fn := fun _ => fun
  | [d1, d2] => { results := [.lit (.bool true)], args := [d1, d2] }
  | _ => none }
def fnExactLeaveSchedRow : OpenClaim := { program := "ythadhpmhaldfmaa", sum := "37ad207a95ad7ad015c5214423daf4730674cb1d4015ea2fe70090e68b7934a5", func := "loop.example/g00789/laws.FnExactLeaveSched", spec := "fnExactLeaveSched", unfollowed := true, recurses := true, apart := false }
def FnExactLeaveSchedSaid : Prop := fnExactLeaveSchedRow.holds Try.pinned (OpenSpec.ofChange fnExactLeaveSchedSpec)

/-- ITS FALSE NEIGHBOUR: 'it returns false'. Refute it at one input. -/
def fnExactLeaveSchedWrong : ChangeSpec := { name := "fnExactLeaveSched", fn := fun _ => fun
  | [d1, d2] => { results := [.lit (.bool false)], args := [d1, d2] }
  | _ => none }
def FnExactLeaveSchedWrongFalsely : Prop := fnExactLeaveSchedRow.holds Try.pinned (OpenSpec.ofChange fnExactLeaveSchedWrong)

/-- 'laws.FnExactPickSched': WHATEVER THE INPUT: true; the input reads as it did. -/
def fnExactPickSchedSpec : ChangeSpec := { name := "fnExactPickSched", fn := fun _ => fun
  | [d] => { results := [.lit (.bool true)], args := [d] }
  | _ => none }
def fnExactPickSchedRow : OpenClaim := { program := "ythadhpmhaldfmaa", sum := "37ad207a95ad7ad015c5214423daf4730674cb1d4015ea2fe70090e68b7934a5", func := "loop.example/g00789/laws.FnExactPickSched", spec := "fnExactPickSched", unfollowed := true, recurses := true, apart := false }
def FnExactPickSchedSaid : Prop := fnExactPickSchedRow.holds Try.pinned (OpenSpec.ofChange fnExactPickSchedSpec)

/-- ITS FALSE NEIGHBOUR: 'it returns false'. Refute it at one input. -/
def fnExactPickSchedWrong : ChangeSpec := { name := "fnExactPickSched", fn := fun _ => fun
  | [d] => { results := [.lit (.bool false)], args := [d] }
  | _ => none }
def FnExactPickSchedWrongFalsely : Prop := fnExactPickSchedRow.holds Try.pinned (OpenSpec.ofChange fnExactPickSchedWrong)

/-- 'laws.FnExactPicksOf': WHATEVER THE INPUT: true; the input reads as it did. -/
def fnExactPicksOfSpec : ChangeSpec := { name := "fnExactPicksOf", fn := fun _ => fun
  | [d1, d2] => { results := [.lit (.bool true)], args := [d1, d2] }
  | _ => none }
def fnExactPicksOfRow : OpenClaim := { program := "ythadhpmhaldfmaa", sum := "37ad207a95ad7ad015c5214423daf4730674cb1d4015ea2fe70090e68b7934a5", func := "loop.example/g00789/laws.FnExactPicksOf", spec := "fnExactPicksOf", unfollowed := true, recurses := true, apart := false }
def FnExactPicksOfSaid : Prop := fnExactPicksOfRow.holds Try.pinned (OpenSpec.ofChange fnExactPicksOfSpec)

/-- ITS FALSE NEIGHBOUR: 'it returns false'. Refute it at one input. -/
def fnExactPicksOfWrong : ChangeSpec := { name := "fnExactPicksOf", fn := fun _ => fun
  | [d1, d2] => { results := [.lit (.bool false)], args := [d1, d2] }
  | _ => none }
def FnExactPicksOfWrongFalsely : Prop := fnExactPicksOfRow.holds Try.pinned (OpenSpec.ofChange fnExactPicksOfWrong)

/-- 'laws.FnExactRebaseSched': WHATEVER THE INPUT: true; the input reads as it did. -/
def fnExactRebaseSchedSpec : ChangeSpec := { name := "fnExactRebaseSched", fn := fun _ => fun
  | [d] => { results := [.lit (.bool true)], args := [d] }
  | _ => none }
def fnExactRebaseSchedRow : OpenClaim := { program := "ythadhpmhaldfmaa", sum := "37ad207a95ad7ad015c5214423daf4730674cb1d4015ea2fe70090e68b7934a5", func := "loop.example/g00789/laws.FnExactRebaseSched", spec := "fnExactRebaseSched", unfollowed := true, recurses := true, apart := false }
def FnExactRebaseSchedSaid : Prop := fnExactRebaseSchedRow.holds Try.pinned (OpenSpec.ofChange fnExactRebaseSchedSpec)

/-- ITS FALSE NEIGHBOUR: 'it returns false'. Refute it at one input. -/
def fnExactRebaseSchedWrong : ChangeSpec := { name := "fnExactRebaseSched", fn := fun _ => fun
  | [d] => { results := [.lit (.bool false)], args := [d] }
  | _ => none }
def FnExactRebaseSchedWrongFalsely : Prop := fnExactRebaseSchedRow.holds Try.pinned (OpenSpec.ofChange fnExactRebaseSchedWrong)

/-- 'laws.FnExactSameScheds': WHATEVER THE INPUT: true; the input reads as it did. -/
def fnExactSameSchedsSpec : ChangeSpec := { name := "fnExactSameScheds", fn := fun _ => fun
  | [d1, d2] => { results := [.lit (.bool true)], args := [d1, d2] }
  | _ => none }
def fnExactSameSchedsRow : OpenClaim := { program := "ythadhpmhaldfmaa", sum := "37ad207a95ad7ad015c5214423daf4730674cb1d4015ea2fe70090e68b7934a5", func := "loop.example/g00789/laws.FnExactSameScheds", spec := "fnExactSameScheds", apart := false }
def FnExactSameSchedsSaid : Prop := fnExactSameSchedsRow.holds Try.pinned (OpenSpec.ofChange fnExactSameSchedsSpec)

/-- ITS FALSE NEIGHBOUR: 'it returns false'. Refute it at one input. -/
def fnExactSameSchedsWrong : ChangeSpec := { name := "fnExactSameScheds", fn := fun _ => fun
  | [d1, d2] => { results := [.lit (.bool false)], args := [d1, d2] }
  | _ => none }
def FnExactSameSchedsWrongFalsely : Prop := fnExactSameSchedsRow.holds Try.pinned (OpenSpec.ofChange fnExactSameSchedsWrong)

/- THE SECOND FORM. 'bulk': how many values and letters a reading holds, each counted each time it is reached (what is shared counts as often as it is met; a slice's spare places count too). A statement '..UptoSaid' is the law's where the arguments, and the package variables that the reading takes, are together of bulk at most 1048576: NARROWER than '..Said'. Prove '..Said' where nothing that the law and all that it calls make is longer than what came in: it says more and counts as full. Else prove '..UptoSaid'. A law counts once. -/
mutual
def uptoBulk {H : Type} : DataW H → Nat
  | .lit (.string bytes) => bytes.length + 1
  | .lit _ => 1
  | .nil => 1
  | .ptr d => uptoBulk d + 1
  | .slice elems spare => uptoBulkAll elems + uptoBulkAll spare + 1
  | .agg parts => uptoBulkAll parts + 1
  | .iface _ d => uptoBulk d + 1
  | .map entries => uptoBulkEntries entries + 1
  | .held _ => 1
def uptoBulkAll {H : Type} : List (DataW H) → Nat
  | [] => 0
  | d :: r => uptoBulk d + uptoBulkAll r
def uptoBulkEntries {H : Type} : List (Lit × DataW H) → Nat
  | [] => 0
  | x :: r => uptoBulkEntry x + uptoBulkEntries r
def uptoBulkEntry {H : Type} : Lit × DataW H → Nat
  | (.string bytes, d) => bytes.length + uptoBulk d + 1
  | (_, d) => uptoBulk d + 1
 end
def uptoSmall : (H : Type) → List (DataW H) → Bool := fun _ ds => decide (uptoBulkAll ds ≤ 1048576)
def OpenSpec.upto (s : _root_.Go.ChangeSpec) : _root_.Go.OpenSpec := { _root_.Go.OpenSpec.ofChange s with cond := some uptoSmall }

/-- 'laws.FnHeaps', WHERE WHAT IT READS IS OF BULK AT MOST 1048576: true; the input reads as it did. -/
def fnHeapsUptoRow : OpenClaim := { program := "ythadhpmhaldfmaa", sum := "37ad207a95ad7ad015c5214423daf4730674cb1d4015ea2fe70090e68b7934a5", func := "loop.example/g00789/laws.FnHeaps", spec := "fnHeaps", unfollowed := true, recurses := true, apart := false, narrowed := true }
def FnHeapsUptoSaid : Prop := fnHeapsUptoRow.holds Try.pinned (OpenSpec.upto fnHeapsSpec)

/-- 'laws.FnScheds', WHERE WHAT IT READS IS OF BULK AT MOST 1048576: true; the input reads as it did. -/
def fnSchedsUptoRow : OpenClaim := { program := "ythadhpmhaldfmaa", sum := "37ad207a95ad7ad015c5214423daf4730674cb1d4015ea2fe70090e68b7934a5", func := "loop.example/g00789/laws.FnScheds", spec := "fnScheds", unfollowed := true, recurses := true, apart := false, narrowed := true }
def FnSchedsUptoSaid : Prop := fnSchedsUptoRow.holds Try.pinned (OpenSpec.upto fnSchedsSpec)

/-- 'laws.FnPicks', WHERE WHAT IT READS IS OF BULK AT MOST 1048576: true; the input reads as it did. -/
def fnPicksUptoRow : OpenClaim := { program := "ythadhpmhaldfmaa", sum := "37ad207a95ad7ad015c5214423daf4730674cb1d4015ea2fe70090e68b7934a5", func := "loop.example/g00789/laws.FnPicks", spec := "fnPicks", unfollowed := true, recurses := true, apart := false, narrowed := true }
def FnPicksUptoSaid : Prop := fnPicksUptoRow.holds Try.pinned (OpenSpec.upto fnPicksSpec)

/-- 'laws.FnExactStrideOf', WHERE WHAT IT READS IS OF BULK AT MOST 1048576: true; the input reads as it did. -/
def fnExactStrideOfUptoRow : OpenClaim := { program := "ythadhpmhaldfmaa", sum := "37ad207a95ad7ad015c5214423daf4730674cb1d4015ea2fe70090e68b7934a5", func := "loop.example/g00789/laws.FnExactStrideOf", spec := "fnExactStrideOf", apart := false, narrowed := true }
def FnExactStrideOfUptoSaid : Prop := fnExactStrideOfUptoRow.holds Try.pinned (OpenSpec.upto fnExactStrideOfSpec)

/-- 'laws.FnExactSchedFault', WHERE WHAT IT READS IS OF BULK AT MOST 1048576: true; the input reads as it did. -/
def fnExactSchedFaultUptoRow : OpenClaim := { program := "ythadhpmhaldfmaa", sum := "37ad207a95ad7ad015c5214423daf4730674cb1d4015ea2fe70090e68b7934a5", func := "loop.example/g00789/laws.FnExactSchedFault", spec := "fnExactSchedFault", unfollowed := true, recurses := true, apart := false, narrowed := true }
def FnExactSchedFaultUptoSaid : Prop := fnExactSchedFaultUptoRow.holds Try.pinned (OpenSpec.upto fnExactSchedFaultSpec)

/-- 'laws.FnExactJoinSched', WHERE WHAT IT READS IS OF BULK AT MOST 1048576: true; the input reads as it did. -/
def fnExactJoinSchedUptoRow : OpenClaim := { program := "ythadhpmhaldfmaa", sum := "37ad207a95ad7ad015c5214423daf4730674cb1d4015ea2fe70090e68b7934a5", func := "loop.example/g00789/laws.FnExactJoinSched", spec := "fnExactJoinSched", unfollowed := true, recurses := true, apart := false, narrowed := true }
def FnExactJoinSchedUptoSaid : Prop := fnExactJoinSchedUptoRow.holds Try.pinned (OpenSpec.upto fnExactJoinSchedSpec)

/-- 'laws.FnExactLeaveSched', WHERE WHAT IT READS IS OF BULK AT MOST 1048576: true; the input reads as it did. -/
def fnExactLeaveSchedUptoRow : OpenClaim := { program := "ythadhpmhaldfmaa", sum := "37ad207a95ad7ad015c5214423daf4730674cb1d4015ea2fe70090e68b7934a5", func := "loop.example/g00789/laws.FnExactLeaveSched", spec := "fnExactLeaveSched", unfollowed := true, recurses := true, apart := false, narrowed := true }
def FnExactLeaveSchedUptoSaid : Prop := fnExactLeaveSchedUptoRow.holds Try.pinned (OpenSpec.upto fnExactLeaveSchedSpec)

/-- 'laws.FnExactPickSched', WHERE WHAT IT READS IS OF BULK AT MOST 1048576: true; the input reads as it did. -/
def fnExactPickSchedUptoRow : OpenClaim := { program := "ythadhpmhaldfmaa", sum := "37ad207a95ad7ad015c5214423daf4730674cb1d4015ea2fe70090e68b7934a5", func := "loop.example/g00789/laws.FnExactPickSched", spec := "fnExactPickSched", unfollowed := true, recurses := true, apart := false, narrowed := true }
def FnExactPickSchedUptoSaid : Prop := fnExactPickSchedUptoRow.holds Try.pinned (OpenSpec.upto fnExactPickSchedSpec)

/-- 'laws.FnExactPicksOf', WHERE WHAT IT READS IS OF BULK AT MOST 1048576: true; the input reads as it did. -/
def fnExactPicksOfUptoRow : OpenClaim := { program := "ythadhpmhaldfmaa", sum := "37ad207a95ad7ad015c5214423daf4730674cb1d4015ea2fe70090e68b7934a5", func := "loop.example/g00789/laws.FnExactPicksOf", spec := "fnExactPicksOf", unfollowed := true, recurses := true, apart := false, narrowed := true }
def FnExactPicksOfUptoSaid : Prop := fnExactPicksOfUptoRow.holds Try.pinned (OpenSpec.upto fnExactPicksOfSpec)

/-- 'laws.FnExactRebaseSched', WHERE WHAT IT READS IS OF BULK AT MOST 1048576: true; the input reads as it did. -/
def fnExactRebaseSchedUptoRow : OpenClaim := { program := "ythadhpmhaldfmaa", sum := "37ad207a95ad7ad015c5214423daf4730674cb1d4015ea2fe70090e68b7934a5", func := "loop.example/g00789/laws.FnExactRebaseSched", spec := "fnExactRebaseSched", unfollowed := true, recurses := true, apart := false, narrowed := true }
def FnExactRebaseSchedUptoSaid : Prop := fnExactRebaseSchedUptoRow.holds Try.pinned (OpenSpec.upto fnExactRebaseSchedSpec)

/-- 'laws.FnExactSameScheds', WHERE WHAT IT READS IS OF BULK AT MOST 1048576: true; the input reads as it did. -/
def fnExactSameSchedsUptoRow : OpenClaim := { program := "ythadhpmhaldfmaa", sum := "37ad207a95ad7ad015c5214423daf4730674cb1d4015ea2fe70090e68b7934a5", func := "loop.example/g00789/laws.FnExactSameScheds", spec := "fnExactSameScheds", apart := false, narrowed := true }
def FnExactSameSchedsUptoSaid : Prop := fnExactSameSchedsUptoRow.holds Try.pinned (OpenSpec.upto fnExactSameSchedsSpec)

end Rows
end Go.Proofs.Ythadhpmhaldfmaa
