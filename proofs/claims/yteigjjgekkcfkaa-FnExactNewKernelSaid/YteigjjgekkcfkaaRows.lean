/-
  No cell of these rows narrows 'for every input' (looked for: loops, veiled, ifaces, maps, wideKeys, modest, calm, conditions, laid).
  DERIVED. THE GIVEN ROWS OF THIS SEAT. 6 by the template 'for every input the law returns true; each argument reads behind the call as it read before'; 0 by the template 'total and deterministic' (their statements: YteigjjgekkcfkaaTotals.lean).
  GIVEN WITH THE SEED: the statements are not yours to turn. If you find one false, say at which input.
  Laid BY PROGRAM, IN A SANDBOX (cutbox-rows.mjs): the forced cells as the released guide's own fill.sh prints them over the translation d766230e3f711a4f… (all of the seat's roots in one cut). By AI agents, Wed Nov 11 2026. No macro, syntax, notation, axiom, sorry.
-/
import Derived.Test.YteigjjgekkcfkaaChecked
import GoSem.Claim
import GoSem.ClaimJoined
import GoSem.ClaimMapViews
import Derived.JoinedTies
import Derived.KernelRfl
namespace Go.Proofs.Yteigjjgekkcfkaa
/- THE CELL 'sum', in the pinned program and in every row, IS THE sha256 OF THE DUMP (.gsa) THAT YteigjjgekkcfkaaProg.lean LOADS. Nothing in Lean hashes anything: it is a label: what it is worth is what the hold of that sum in a sandbox is worth. -/
noncomputable def Try.pinned : Pinned := { name := "yteigjjgekkcfkaa", sum := "d766230e3f711a4f478b4e7ae6a593068227142a729fbde35d14d8bbaf1eec73", checked := Try.checked }
namespace Rows
def none {H : Type} : Left H := { results := [], args := [] }

/-- 'laws.FnExactKernelFault': WHATEVER THE INPUT: true; the input reads as it did. -/
def fnExactKernelFaultSpec : ChangeSpec := { name := "fnExactKernelFault", fn := fun _ => fun
  | [d] => { results := [.lit (.bool true)], args := [d] }
  | _ => none }
def fnExactKernelFaultRow : OpenClaim := { program := "yteigjjgekkcfkaa", sum := "d766230e3f711a4f478b4e7ae6a593068227142a729fbde35d14d8bbaf1eec73", func := "loop.example/g00789/laws.FnExactKernelFault", spec := "fnExactKernelFault", apart := false }
def FnExactKernelFaultSaid : Prop := fnExactKernelFaultRow.holds Try.pinned (OpenSpec.ofChange fnExactKernelFaultSpec)

/-- ITS FALSE NEIGHBOUR: 'it returns false'. Refute it at one input. -/
def fnExactKernelFaultWrong : ChangeSpec := { name := "fnExactKernelFault", fn := fun _ => fun
  | [d] => { results := [.lit (.bool false)], args := [d] }
  | _ => none }
def FnExactKernelFaultWrongFalsely : Prop := fnExactKernelFaultRow.holds Try.pinned (OpenSpec.ofChange fnExactKernelFaultWrong)

/-- 'laws.FnExactNewKernel': WHATEVER THE INPUT: true; the input reads as it did. -/
def fnExactNewKernelSpec : ChangeSpec := { name := "fnExactNewKernel", fn := fun _ => fun
  | [d] => { results := [.lit (.bool true)], args := [d] }
  | _ => none }
def fnExactNewKernelRow : OpenClaim := { program := "yteigjjgekkcfkaa", sum := "d766230e3f711a4f478b4e7ae6a593068227142a729fbde35d14d8bbaf1eec73", func := "loop.example/g00789/laws.FnExactNewKernel", spec := "fnExactNewKernel", apart := false }
def FnExactNewKernelSaid : Prop := fnExactNewKernelRow.holds Try.pinned (OpenSpec.ofChange fnExactNewKernelSpec)

/-- ITS FALSE NEIGHBOUR: 'it returns false'. Refute it at one input. -/
def fnExactNewKernelWrong : ChangeSpec := { name := "fnExactNewKernel", fn := fun _ => fun
  | [d] => { results := [.lit (.bool false)], args := [d] }
  | _ => none }
def FnExactNewKernelWrongFalsely : Prop := fnExactNewKernelRow.holds Try.pinned (OpenSpec.ofChange fnExactNewKernelWrong)

/-- 'laws.FnExactCallFault': WHATEVER THE INPUT: true; the input reads as it did. -/
def fnExactCallFaultSpec : ChangeSpec := { name := "fnExactCallFault", fn := fun _ => fun
  | [d] => { results := [.lit (.bool true)], args := [d] }
  | _ => none }
def fnExactCallFaultRow : OpenClaim := { program := "yteigjjgekkcfkaa", sum := "d766230e3f711a4f478b4e7ae6a593068227142a729fbde35d14d8bbaf1eec73", func := "loop.example/g00789/laws.FnExactCallFault", spec := "fnExactCallFault", apart := false }
def FnExactCallFaultSaid : Prop := fnExactCallFaultRow.holds Try.pinned (OpenSpec.ofChange fnExactCallFaultSpec)

/-- ITS FALSE NEIGHBOUR: 'it returns false'. Refute it at one input. -/
def fnExactCallFaultWrong : ChangeSpec := { name := "fnExactCallFault", fn := fun _ => fun
  | [d] => { results := [.lit (.bool false)], args := [d] }
  | _ => none }
def FnExactCallFaultWrongFalsely : Prop := fnExactCallFaultRow.holds Try.pinned (OpenSpec.ofChange fnExactCallFaultWrong)

/-- 'laws.FnExactEventFault': WHATEVER THE INPUT: true; the input reads as it did. -/
def fnExactEventFaultSpec : ChangeSpec := { name := "fnExactEventFault", fn := fun _ => fun
  | [d] => { results := [.lit (.bool true)], args := [d] }
  | _ => none }
def fnExactEventFaultRow : OpenClaim := { program := "yteigjjgekkcfkaa", sum := "d766230e3f711a4f478b4e7ae6a593068227142a729fbde35d14d8bbaf1eec73", func := "loop.example/g00789/laws.FnExactEventFault", spec := "fnExactEventFault", unfollowed := true, recurses := true, apart := false }
def FnExactEventFaultSaid : Prop := fnExactEventFaultRow.holds Try.pinned (OpenSpec.ofChange fnExactEventFaultSpec)

/-- ITS FALSE NEIGHBOUR: 'it returns false'. Refute it at one input. -/
def fnExactEventFaultWrong : ChangeSpec := { name := "fnExactEventFault", fn := fun _ => fun
  | [d] => { results := [.lit (.bool false)], args := [d] }
  | _ => none }
def FnExactEventFaultWrongFalsely : Prop := fnExactEventFaultRow.holds Try.pinned (OpenSpec.ofChange fnExactEventFaultWrong)

/-- 'laws.FnExactDoCall': WHATEVER THE INPUT: true; the input reads as it did. -/
def fnExactDoCallSpec : ChangeSpec := { name := "fnExactDoCall", fn := fun _ => fun
  | [d1, d2] => { results := [.lit (.bool true)], args := [d1, d2] }
  | _ => none }
def fnExactDoCallRow : OpenClaim := { program := "yteigjjgekkcfkaa", sum := "d766230e3f711a4f478b4e7ae6a593068227142a729fbde35d14d8bbaf1eec73", func := "loop.example/g00789/laws.FnExactDoCall", spec := "fnExactDoCall", unfollowed := true, recurses := true, apart := false }
def FnExactDoCallSaid : Prop := fnExactDoCallRow.holds Try.pinned (OpenSpec.ofChange fnExactDoCallSpec)

/-- ITS FALSE NEIGHBOUR: 'it returns false'. Refute it at one input. -/
def fnExactDoCallWrong : ChangeSpec := { name := "fnExactDoCall", fn := fun _ => fun
  | [d1, d2] => { results := [.lit (.bool false)], args := [d1, d2] }
  | _ => none }
def FnExactDoCallWrongFalsely : Prop := fnExactDoCallRow.holds Try.pinned (OpenSpec.ofChange fnExactDoCallWrong)

/-- 'laws.FnExactSameKernels': WHATEVER THE INPUT: true; the input reads as it did. -/
def fnExactSameKernelsSpec : ChangeSpec := { name := "fnExactSameKernels", fn := fun _ => fun
  | [d1, d2] => { results := [.lit (.bool true)], args := [d1, d2] }
  | _ => none }
def fnExactSameKernelsRow : OpenClaim := { program := "yteigjjgekkcfkaa", sum := "d766230e3f711a4f478b4e7ae6a593068227142a729fbde35d14d8bbaf1eec73", func := "loop.example/g00789/laws.FnExactSameKernels", spec := "fnExactSameKernels", apart := false }
def FnExactSameKernelsSaid : Prop := fnExactSameKernelsRow.holds Try.pinned (OpenSpec.ofChange fnExactSameKernelsSpec)

/-- ITS FALSE NEIGHBOUR: 'it returns false'. Refute it at one input. -/
def fnExactSameKernelsWrong : ChangeSpec := { name := "fnExactSameKernels", fn := fun _ => fun
  | [d1, d2] => { results := [.lit (.bool false)], args := [d1, d2] }
  | _ => none }
def FnExactSameKernelsWrongFalsely : Prop := fnExactSameKernelsRow.holds Try.pinned (OpenSpec.ofChange fnExactSameKernelsWrong)

/- THE SECOND FORM. 'bulk': how many values and letters a reading holds, each counted each time it is reached (what is shared counts as often as it is met; a slice's spare places count too). A statement '..UptoSaid' is the law's where the arguments, and the package variables that the reading takes, are together of bulk at most 1048576: NARROWER than '..Said'. Prove '..Said' where nothing that the law and all that it calls make is longer than what came in: it says more and counts as full. Else prove '..UptoSaid'. A law counts once. -/
mutual
def uptoBulk {H : Type} : DataW H → Nat
  | .lit (.string bytes) => bytes.length + 1
  | .lit _ => 1
  | .nil => 1
  | .ptr d => uptoBulk d + 1
  | .slice elems spare => uptoBulkAll elems + uptoBulkAll spare + 1
  | .agg parts => uptoBulkAll parts + 1
  | .iface _ d => uptoBulk d + 1
  | .map entries => uptoBulkEntries entries + 1
  | .held _ => 1
def uptoBulkAll {H : Type} : List (DataW H) → Nat
  | [] => 0
  | d :: r => uptoBulk d + uptoBulkAll r
def uptoBulkEntries {H : Type} : List (Lit × DataW H) → Nat
  | [] => 0
  | x :: r => uptoBulkEntry x + uptoBulkEntries r
def uptoBulkEntry {H : Type} : Lit × DataW H → Nat
  | (.string bytes, d) => bytes.length + uptoBulk d + 1
  | (_, d) => uptoBulk d + 1
 end
def uptoSmall : (H : Type) → List (DataW H) → Bool := fun _ ds => decide (uptoBulkAll ds ≤ 1048576)
def OpenSpec.upto (s : _root_.Go.ChangeSpec) : _root_.Go.OpenSpec := { _root_.Go.OpenSpec.ofChange s with cond := some uptoSmall }

/-- 'laws.FnExactKernelFault', WHERE WHAT IT READS IS OF BULK AT MOST 1048576: true; the input reads as it did. -/
def fnExactKernelFaultUptoRow : OpenClaim := { program := "yteigjjgekkcfkaa", sum := "d766230e3f711a4f478b4e7ae6a593068227142a729fbde35d14d8bbaf1eec73", func := "loop.example/g00789/laws.FnExactKernelFault", spec := "fnExactKernelFault", apart := false, narrowed := true }
def FnExactKernelFaultUptoSaid : Prop := fnExactKernelFaultUptoRow.holds Try.pinned (OpenSpec.upto fnExactKernelFaultSpec)

/-- 'laws.FnExactNewKernel', WHERE WHAT IT READS IS OF BULK AT MOST 1048576: true; the input reads as it did. -/
def fnExactNewKernelUptoRow : OpenClaim := { program := "yteigjjgekkcfkaa", sum := "d766230e3f711a4f478b4e7ae6a593068227142a729fbde35d14d8bbaf1eec73", func := "loop.example/g00789/laws.FnExactNewKernel", spec := "fnExactNewKernel", apart := false, narrowed := true }
def FnExactNewKernelUptoSaid : Prop := fnExactNewKernelUptoRow.holds Try.pinned (OpenSpec.upto fnExactNewKernelSpec)

/-- 'laws.FnExactCallFault', WHERE WHAT IT READS IS OF BULK AT MOST 1048576: true; the input reads as it did. -/
def fnExactCallFaultUptoRow : OpenClaim := { program := "yteigjjgekkcfkaa", sum := "d766230e3f711a4f478b4e7ae6a593068227142a729fbde35d14d8bbaf1eec73", func := "loop.example/g00789/laws.FnExactCallFault", spec := "fnExactCallFault", apart := false, narrowed := true }
def FnExactCallFaultUptoSaid : Prop := fnExactCallFaultUptoRow.holds Try.pinned (OpenSpec.upto fnExactCallFaultSpec)

/-- 'laws.FnExactEventFault', WHERE WHAT IT READS IS OF BULK AT MOST 1048576: true; the input reads as it did. -/
def fnExactEventFaultUptoRow : OpenClaim := { program := "yteigjjgekkcfkaa", sum := "d766230e3f711a4f478b4e7ae6a593068227142a729fbde35d14d8bbaf1eec73", func := "loop.example/g00789/laws.FnExactEventFault", spec := "fnExactEventFault", unfollowed := true, recurses := true, apart := false, narrowed := true }
def FnExactEventFaultUptoSaid : Prop := fnExactEventFaultUptoRow.holds Try.pinned (OpenSpec.upto fnExactEventFaultSpec)

/-- 'laws.FnExactDoCall', WHERE WHAT IT READS IS OF BULK AT MOST 1048576: true; the input reads as it did. -/
def fnExactDoCallUptoRow : OpenClaim := { program := "yteigjjgekkcfkaa", sum := "d766230e3f711a4f478b4e7ae6a593068227142a729fbde35d14d8bbaf1eec73", func := "loop.example/g00789/laws.FnExactDoCall", spec := "fnExactDoCall", unfollowed := true, recurses := true, apart := false, narrowed := true }
def FnExactDoCallUptoSaid : Prop := fnExactDoCallUptoRow.holds Try.pinned (OpenSpec.upto fnExactDoCallSpec)

/-- 'laws.FnExactSameKernels', WHERE WHAT IT READS IS OF BULK AT MOST 1048576: true; the input reads as it did. -/
def fnExactSameKernelsUptoRow : OpenClaim := { program := "yteigjjgekkcfkaa", sum := "d766230e3f711a4f478b4e7ae6a593068227142a729fbde35d14d8bbaf1eec73", func := "loop.example/g00789/laws.FnExactSameKernels", spec := "fnExactSameKernels", apart := false, narrowed := true }
def FnExactSameKernelsUptoSaid : Prop := fnExactSameKernelsUptoRow.holds Try.pinned (OpenSpec.upto fnExactSameKernelsSpec)

end Rows
end Go.Proofs.Yteigjjgekkcfkaa
