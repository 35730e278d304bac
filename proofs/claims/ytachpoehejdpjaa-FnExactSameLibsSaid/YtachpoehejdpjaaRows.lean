/-
  No cell of these rows narrows 'for every input' (looked for: loops, veiled, ifaces, maps, wideKeys, modest, calm, conditions, laid).
  DERIVED. THE GIVEN ROWS OF THIS SEAT. 4 by the template 'for every input the law returns true; each argument reads behind the call as it read before'; 0 by the template 'total and deterministic' (their statements: YtachpoehejdpjaaTotals.lean).
  GIVEN WITH THE SEED: the statements are not yours to turn. If you find one false, say at which input.
  Laid BY PROGRAM, IN A SANDBOX (cutbox-rows.mjs): the forced cells as the released guide's own fill.sh prints them over the translation cb1d8cc7ea9132b5… (all of the seat's roots in one cut). By AI agents, Wed Nov 11 2026. No macro, syntax, notation, axiom, sorry.
-/
import Derived.Test.YtachpoehejdpjaaChecked
import GoSem.Claim
import GoSem.ClaimJoined
import GoSem.ClaimMapViews
import Derived.JoinedTies
import Derived.KernelRfl
namespace Go.Proofs.Ytachpoehejdpjaa
/- THE CELL 'sum', in the pinned program and in every row, IS THE sha256 OF THE DUMP (.gsa) THAT YtachpoehejdpjaaProg.lean LOADS. Nothing in Lean hashes anything: it is a label: what it is worth is what the hold of that sum in a sandbox is worth. -/
noncomputable def Try.pinned : Pinned := { name := "ytachpoehejdpjaa", sum := "cb1d8cc7ea9132b514fbd57989c8a52e62ff9ef75ff2df6bc8ca81489b2e4926", checked := Try.checked }
namespace Rows
def none {H : Type} : Left H := { results := [], args := [] }

/-- 'laws.FnExactOpFault': WHATEVER THE INPUT: true; the input reads as it did. -/
def fnExactOpFaultSpec : ChangeSpec := { name := "fnExactOpFault", fn := fun _ => fun
  | [d] => { results := [.lit (.bool true)], args := [d] }
  | _ => none }
def fnExactOpFaultRow : OpenClaim := { program := "ytachpoehejdpjaa", sum := "cb1d8cc7ea9132b514fbd57989c8a52e62ff9ef75ff2df6bc8ca81489b2e4926", func := "loop.example/g00789/laws.FnExactOpFault", spec := "fnExactOpFault", unfollowed := true, recurses := true, apart := false }
def FnExactOpFaultSaid : Prop := fnExactOpFaultRow.holds Try.pinned (OpenSpec.ofChange fnExactOpFaultSpec)

/-- ITS FALSE NEIGHBOUR: 'it returns false'. Refute it at one input. -/
def fnExactOpFaultWrong : ChangeSpec := { name := "fnExactOpFault", fn := fun _ => fun
  | [d] => { results := [.lit (.bool false)], args := [d] }
  | _ => none }
def FnExactOpFaultWrongFalsely : Prop := fnExactOpFaultRow.holds Try.pinned (OpenSpec.ofChange fnExactOpFaultWrong)

/-- 'laws.FnExactPlansFault': WHATEVER THE INPUT: true; the input reads as it did. -/
def fnExactPlansFaultSpec : ChangeSpec := { name := "fnExactPlansFault", fn := fun _ => fun
  | [d] => { results := [.lit (.bool true)], args := [d] }
  | _ => none }
def fnExactPlansFaultRow : OpenClaim := { program := "ytachpoehejdpjaa", sum := "cb1d8cc7ea9132b514fbd57989c8a52e62ff9ef75ff2df6bc8ca81489b2e4926", func := "loop.example/g00789/laws.FnExactPlansFault", spec := "fnExactPlansFault", unfollowed := true, recurses := true, apart := false }
def FnExactPlansFaultSaid : Prop := fnExactPlansFaultRow.holds Try.pinned (OpenSpec.ofChange fnExactPlansFaultSpec)

/-- ITS FALSE NEIGHBOUR: 'it returns false'. Refute it at one input. -/
def fnExactPlansFaultWrong : ChangeSpec := { name := "fnExactPlansFault", fn := fun _ => fun
  | [d] => { results := [.lit (.bool false)], args := [d] }
  | _ => none }
def FnExactPlansFaultWrongFalsely : Prop := fnExactPlansFaultRow.holds Try.pinned (OpenSpec.ofChange fnExactPlansFaultWrong)

/-- 'laws.FnExactHeldBy': WHATEVER THE INPUT: true; the input reads as it did. -/
def fnExactHeldBySpec : ChangeSpec := { name := "fnExactHeldBy", fn := fun _ => fun
  | [d1, d2] => { results := [.lit (.bool true)], args := [d1, d2] }
  | _ => none }
def fnExactHeldByRow : OpenClaim := { program := "ytachpoehejdpjaa", sum := "cb1d8cc7ea9132b514fbd57989c8a52e62ff9ef75ff2df6bc8ca81489b2e4926", func := "loop.example/g00789/laws.FnExactHeldBy", spec := "fnExactHeldBy", apart := false }
def FnExactHeldBySaid : Prop := fnExactHeldByRow.holds Try.pinned (OpenSpec.ofChange fnExactHeldBySpec)

/-- ITS FALSE NEIGHBOUR: 'it returns false'. Refute it at one input. -/
def fnExactHeldByWrong : ChangeSpec := { name := "fnExactHeldBy", fn := fun _ => fun
  | [d1, d2] => { results := [.lit (.bool false)], args := [d1, d2] }
  | _ => none }
def FnExactHeldByWrongFalsely : Prop := fnExactHeldByRow.holds Try.pinned (OpenSpec.ofChange fnExactHeldByWrong)

/-- 'laws.FnExactSameLibs': WHATEVER THE INPUT: true; the input reads as it did. -/
def fnExactSameLibsSpec : ChangeSpec := { name := "fnExactSameLibs", fn := fun _ => fun
  | [d1, d2] => { results := [.lit (.bool true)], args := [d1, d2] }
  | _ => none }
def fnExactSameLibsRow : OpenClaim := { program := "ytachpoehejdpjaa", sum := "cb1d8cc7ea9132b514fbd57989c8a52e62ff9ef75ff2df6bc8ca81489b2e4926", func := "loop.example/g00789/laws.FnExactSameLibs", spec := "fnExactSameLibs", unfollowed := true, recurses := true, apart := false }
def FnExactSameLibsSaid : Prop := fnExactSameLibsRow.holds Try.pinned (OpenSpec.ofChange fnExactSameLibsSpec)

/-- ITS FALSE NEIGHBOUR: 'it returns false'. Refute it at one input. -/
def fnExactSameLibsWrong : ChangeSpec := { name := "fnExactSameLibs", fn := fun _ => fun
  | [d1, d2] => { results := [.lit (.bool false)], args := [d1, d2] }
  | _ => none }
def FnExactSameLibsWrongFalsely : Prop := fnExactSameLibsRow.holds Try.pinned (OpenSpec.ofChange fnExactSameLibsWrong)

/- THE SECOND FORM. 'bulk': how many values and letters a reading holds, each counted each time it is reached (what is shared counts as often as it is met; a slice's spare places count too). A statement '..UptoSaid' is the law's where the arguments, and the package variables that the reading takes, are together of bulk at most 1048576: NARROWER than '..Said'. Prove '..Said' where nothing that the law and all that it calls make is longer than what came in: it says more and counts as full. Else prove '..UptoSaid'. A law counts once. -/
mutual
def uptoBulk {H : Type} : DataW H → Nat
  | .lit (.string bytes) => bytes.length + 1
  | .lit _ => 1
  | .nil => 1
  | .ptr d => uptoBulk d + 1
  | .slice elems spare => uptoBulkAll elems + uptoBulkAll spare + 1
  | .agg parts => uptoBulkAll parts + 1
  | .iface _ d => uptoBulk d + 1
  | .map entries => uptoBulkEntries entries + 1
  | .held _ => 1
def uptoBulkAll {H : Type} : List (DataW H) → Nat
  | [] => 0
  | d :: r => uptoBulk d + uptoBulkAll r
def uptoBulkEntries {H : Type} : List (Lit × DataW H) → Nat
  | [] => 0
  | x :: r => uptoBulkEntry x + uptoBulkEntries r
def uptoBulkEntry {H : Type} : Lit × DataW H → Nat
  | (.string bytes, d) => bytes.length + uptoBulk d + 1
  | (_, d) => uptoBulk d + 1
 end
def uptoSmall : (H : Type) → List (DataW H) → Bool := fun _ ds => decide (uptoBulkAll ds ≤ 1048576)
def OpenSpec.upto (s : _root_.Go.ChangeSpec) : _root_.Go.OpenSpec := { _root_.Go.OpenSpec.ofChange s with cond := some uptoSmall }

/-- 'laws.FnExactOpFault', WHERE WHAT IT READS IS OF BULK AT MOST 1048576: true; the input reads as it did. -/
def fnExactOpFaultUptoRow : OpenClaim := { program := "ytachpoehejdpjaa", sum := "cb1d8cc7ea9132b514fbd57989c8a52e62ff9ef75ff2df6bc8ca81489b2e4926", func := "loop.example/g00789/laws.FnExactOpFault", spec := "fnExactOpFault", unfollowed := true, recurses := true, apart := false, narrowed := true }
def FnExactOpFaultUptoSaid : Prop := fnExactOpFaultUptoRow.holds Try.pinned (OpenSpec.upto fnExactOpFaultSpec)

/-- 'laws.FnExactPlansFault', WHERE WHAT IT READS IS OF BULK AT MOST 1048576: true; the input reads as it did. -/
def fnExactPlansFaultUptoRow : OpenClaim := { program := "ytachpoehejdpjaa", sum := "cb1d8cc7ea9132b514fbd57989c8a52e62ff9ef75ff2df6bc8ca81489b2e4926", func := "loop.example/g00789/laws.FnExactPlansFault", spec := "fnExactPlansFault", unfollowed := true, recurses := true, apart := false, narrowed := true }
def FnExactPlansFaultUptoSaid : Prop := fnExactPlansFaultUptoRow.holds Try.pinned (OpenSpec.upto fnExactPlansFaultSpec)

/-- 'laws.FnExactHeldBy', WHERE WHAT IT READS IS OF BULK AT MOST 1048576: true; the input reads as it did. -/
def fnExactHeldByUptoRow : OpenClaim := { program := "ytachpoehejdpjaa", sum := "cb1d8cc7ea9132b514fbd57989c8a52e62ff9ef75ff2df6bc8ca81489b2e4926", func := "loop.example/g00789/laws.FnExactHeldBy", spec := "fnExactHeldBy", apart := false, narrowed := true }
def FnExactHeldByUptoSaid : Prop := fnExactHeldByUptoRow.holds Try.pinned (OpenSpec.upto fnExactHeldBySpec)

/-- 'laws.FnExactSameLibs', WHERE WHAT IT READS IS OF BULK AT MOST 1048576: true; the input reads as it did. -/
def fnExactSameLibsUptoRow : OpenClaim := { program := "ytachpoehejdpjaa", sum := "cb1d8cc7ea9132b514fbd57989c8a52e62ff9ef75ff2df6bc8ca81489b2e4926", func := "loop.example/g00789/laws.FnExactSameLibs", spec := "fnExactSameLibs", unfollowed := true, recurses := true, apart := false, narrowed := true }
def FnExactSameLibsUptoSaid : Prop := fnExactSameLibsUptoRow.holds Try.pinned (OpenSpec.upto fnExactSameLibsSpec)

end Rows
end Go.Proofs.Ytachpoehejdpjaa
