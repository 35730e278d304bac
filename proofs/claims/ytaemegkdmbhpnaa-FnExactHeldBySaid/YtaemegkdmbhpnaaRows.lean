/-
  No cell of these rows narrows 'for every input' (looked for: loops, veiled, ifaces, maps, wideKeys, modest, calm, conditions, laid).
  DERIVED. THE GIVEN ROWS OF THIS SEAT. 6 by the template 'for every input the law returns true; each argument reads behind the call as it read before'; 0 by the template 'total and deterministic' (their statements: YtaemegkdmbhpnaaTotals.lean).
  GIVEN WITH THE SEED: the statements are not yours to turn. If you find one false, say at which input.
  Laid BY PROGRAM, IN A SANDBOX (cutbox-rows.mjs): the forced cells as the released guide's own fill.sh prints them over the translation 7fbde278fc6e7084… (all of the seat's roots in one cut). By AI agents, Wed Nov 11 2026. No macro, syntax, notation, axiom, sorry.
-/
import Derived.Test.YtaemegkdmbhpnaaChecked
import GoSem.Claim
import GoSem.ClaimJoined
import GoSem.ClaimMapViews
import Derived.JoinedTies
import Derived.KernelRfl
namespace Go.Proofs.Ytaemegkdmbhpnaa
/- THE CELL 'sum', in the pinned program and in every row, IS THE sha256 OF THE DUMP (.gsa) THAT YtaemegkdmbhpnaaProg.lean LOADS. Nothing in Lean hashes anything: it is a label: what it is worth is what the hold of that sum in a sandbox is worth. -/
noncomputable def Try.pinned : Pinned := { name := "ytaemegkdmbhpnaa", sum := "7fbde278fc6e708495650f361cd4c2de684d77cdb6651ab33719b1712e5d3550", checked := Try.checked }
namespace Rows
def none {H : Type} : Left H := { results := [], args := [] }

/-- 'laws.FnExactWhoActs': WHATEVER THE INPUT: true; the input reads as it did. -/
def fnExactWhoActsSpec : ChangeSpec := { name := "fnExactWhoActs", fn := fun _ => fun
  | [d] => { results := [.lit (.bool true)], args := [d] }
  | _ => none }
def fnExactWhoActsRow : OpenClaim := { program := "ytaemegkdmbhpnaa", sum := "7fbde278fc6e708495650f361cd4c2de684d77cdb6651ab33719b1712e5d3550", func := "loop.example/g00789/laws.FnExactWhoActs", spec := "fnExactWhoActs", apart := false }
def FnExactWhoActsSaid : Prop := fnExactWhoActsRow.holds Try.pinned (OpenSpec.ofChange fnExactWhoActsSpec)

/-- ITS FALSE NEIGHBOUR: 'it returns false'. Refute it at one input. -/
def fnExactWhoActsWrong : ChangeSpec := { name := "fnExactWhoActs", fn := fun _ => fun
  | [d] => { results := [.lit (.bool false)], args := [d] }
  | _ => none }
def FnExactWhoActsWrongFalsely : Prop := fnExactWhoActsRow.holds Try.pinned (OpenSpec.ofChange fnExactWhoActsWrong)

/-- 'laws.FnExactHonestAct': WHATEVER THE INPUT: true; the input reads as it did. -/
def fnExactHonestActSpec : ChangeSpec := { name := "fnExactHonestAct", fn := fun _ => fun
  | [d1, d2] => { results := [.lit (.bool true)], args := [d1, d2] }
  | _ => none }
def fnExactHonestActRow : OpenClaim := { program := "ytaemegkdmbhpnaa", sum := "7fbde278fc6e708495650f361cd4c2de684d77cdb6651ab33719b1712e5d3550", func := "loop.example/g00789/laws.FnExactHonestAct", spec := "fnExactHonestAct", apart := false }
def FnExactHonestActSaid : Prop := fnExactHonestActRow.holds Try.pinned (OpenSpec.ofChange fnExactHonestActSpec)

/-- ITS FALSE NEIGHBOUR: 'it returns false'. Refute it at one input. -/
def fnExactHonestActWrong : ChangeSpec := { name := "fnExactHonestAct", fn := fun _ => fun
  | [d1, d2] => { results := [.lit (.bool false)], args := [d1, d2] }
  | _ => none }
def FnExactHonestActWrongFalsely : Prop := fnExactHonestActRow.holds Try.pinned (OpenSpec.ofChange fnExactHonestActWrong)

/-- 'laws.FnExactHeldBy': WHATEVER THE INPUT: true; the input reads as it did. -/
def fnExactHeldBySpec : ChangeSpec := { name := "fnExactHeldBy", fn := fun _ => fun
  | [d1, d2] => { results := [.lit (.bool true)], args := [d1, d2] }
  | _ => none }
def fnExactHeldByRow : OpenClaim := { program := "ytaemegkdmbhpnaa", sum := "7fbde278fc6e708495650f361cd4c2de684d77cdb6651ab33719b1712e5d3550", func := "loop.example/g00789/laws.FnExactHeldBy", spec := "fnExactHeldBy", apart := false }
def FnExactHeldBySaid : Prop := fnExactHeldByRow.holds Try.pinned (OpenSpec.ofChange fnExactHeldBySpec)

/-- ITS FALSE NEIGHBOUR: 'it returns false'. Refute it at one input. -/
def fnExactHeldByWrong : ChangeSpec := { name := "fnExactHeldBy", fn := fun _ => fun
  | [d1, d2] => { results := [.lit (.bool false)], args := [d1, d2] }
  | _ => none }
def FnExactHeldByWrongFalsely : Prop := fnExactHeldByRow.holds Try.pinned (OpenSpec.ofChange fnExactHeldByWrong)

/-- 'laws.FnHeaps': WHATEVER THE INPUT: true; the input reads as it did. -/
def fnHeapsSpec : ChangeSpec := { name := "fnHeaps", fn := fun _ => fun
  | [d] => { results := [.lit (.bool true)], args := [d] }
  | _ => none }
def fnHeapsRow : OpenClaim := { program := "ytaemegkdmbhpnaa", sum := "7fbde278fc6e708495650f361cd4c2de684d77cdb6651ab33719b1712e5d3550", func := "loop.example/g00789/laws.FnHeaps", spec := "fnHeaps", unfollowed := true, recurses := true, apart := false }
def FnHeapsSaid : Prop := fnHeapsRow.holds Try.pinned (OpenSpec.ofChange fnHeapsSpec)

/-- ITS FALSE NEIGHBOUR: 'it returns false'. Refute it at one input. -/
def fnHeapsWrong : ChangeSpec := { name := "fnHeaps", fn := fun _ => fun
  | [d] => { results := [.lit (.bool false)], args := [d] }
  | _ => none }
def FnHeapsWrongFalsely : Prop := fnHeapsRow.holds Try.pinned (OpenSpec.ofChange fnHeapsWrong)

/-- 'laws.FnScheds': WHATEVER THE INPUT: true; the input reads as it did. -/
def fnSchedsSpec : ChangeSpec := { name := "fnScheds", fn := fun _ => fun
  | [d] => { results := [.lit (.bool true)], args := [d] }
  | _ => none }
def fnSchedsRow : OpenClaim := { program := "ytaemegkdmbhpnaa", sum := "7fbde278fc6e708495650f361cd4c2de684d77cdb6651ab33719b1712e5d3550", func := "loop.example/g00789/laws.FnScheds", spec := "fnScheds", unfollowed := true, recurses := true, apart := false }
def FnSchedsSaid : Prop := fnSchedsRow.holds Try.pinned (OpenSpec.ofChange fnSchedsSpec)

/-- ITS FALSE NEIGHBOUR: 'it returns false'. Refute it at one input. -/
def fnSchedsWrong : ChangeSpec := { name := "fnScheds", fn := fun _ => fun
  | [d] => { results := [.lit (.bool false)], args := [d] }
  | _ => none }
def FnSchedsWrongFalsely : Prop := fnSchedsRow.holds Try.pinned (OpenSpec.ofChange fnSchedsWrong)

/-- 'laws.FnPicks': WHATEVER THE INPUT: true; the input reads as it did. -/
def fnPicksSpec : ChangeSpec := { name := "fnPicks", fn := fun _ => fun
  | [d] => { results := [.lit (.bool true)], args := [d] }
  | _ => none }
def fnPicksRow : OpenClaim := { program := "ytaemegkdmbhpnaa", sum := "7fbde278fc6e708495650f361cd4c2de684d77cdb6651ab33719b1712e5d3550", func := "loop.example/g00789/laws.FnPicks", spec := "fnPicks", unfollowed := true, recurses := true, apart := false }
def FnPicksSaid : Prop := fnPicksRow.holds Try.pinned (OpenSpec.ofChange fnPicksSpec)

/-- ITS FALSE NEIGHBOUR: 'it returns false'. Refute it at one input. -/
def fnPicksWrong : ChangeSpec := { name := "fnPicks", fn := fun _ => fun
  | [d] => { results := [.lit (.bool false)], args := [d] }
  | _ => none }
def FnPicksWrongFalsely : Prop := fnPicksRow.holds Try.pinned (OpenSpec.ofChange fnPicksWrong)

/- THE SECOND FORM. 'bulk': how many values and letters a reading holds, each counted each time it is reached (what is shared counts as often as it is met; a slice's spare places count too). A statement '..UptoSaid' is the law's where the arguments, and the package variables that the reading takes, are together of bulk at most 1048576: NARROWER than '..Said'. Prove '..Said' where nothing that the law and all that it calls make is longer than what came in: it says more and counts as full. Else prove '..UptoSaid'. A law counts once. -/
mutual
def uptoBulk {H : Type} : DataW H → Nat
  | .lit (.string bytes) => bytes.length + 1
  | .lit _ => 1
  | .nil => 1
  | .ptr d => uptoBulk d + 1
  | .slice elems spare => uptoBulkAll elems + uptoBulkAll spare + 1
  | .agg parts => uptoBulkAll parts + 1
  | .iface _ d => uptoBulk d + 1
  | .map entries => uptoBulkEntries entries + 1
  | .held _ => 1
def uptoBulkAll {H : Type} : List (DataW H) → Nat
  | [] => 0
  | d :: r => uptoBulk d + uptoBulkAll r
def uptoBulkEntries {H : Type} : List (Lit × DataW H) → Nat
  | [] => 0
  | x :: r => uptoBulkEntry x + uptoBulkEntries r
def uptoBulkEntry {H : Type} : Lit × DataW H → Nat
  | (.string bytes, d) => bytes.length + uptoBulk d + 1
  | (_, d) => uptoBulk d + 1
 end
def uptoSmall : (H : Type) → List (DataW H) → Bool := fun _ ds => decide (uptoBulkAll ds ≤ 1048576)
def OpenSpec.upto (s : _root_.Go.ChangeSpec) : _root_.Go.OpenSpec := { _root_.Go.OpenSpec.ofChange s with cond := some uptoSmall }

/-- 'laws.FnExactWhoActs', WHERE WHAT IT READS IS OF BULK AT MOST 1048576: true; the input reads as it did. -/
def fnExactWhoActsUptoRow : OpenClaim := { program := "ytaemegkdmbhpnaa", sum := "7fbde278fc6e708495650f361cd4c2de684d77cdb6651ab33719b1712e5d3550", func := "loop.example/g00789/laws.FnExactWhoActs", spec := "fnExactWhoActs", apart := false, narrowed := true }
def FnExactWhoActsUptoSaid : Prop := fnExactWhoActsUptoRow.holds Try.pinned (OpenSpec.upto fnExactWhoActsSpec)

/-- 'laws.FnExactHonestAct', WHERE WHAT IT READS IS OF BULK AT MOST 1048576: true; the input reads as it did. -/
def fnExactHonestActUptoRow : OpenClaim := { program := "ytaemegkdmbhpnaa", sum := "7fbde278fc6e708495650f361cd4c2de684d77cdb6651ab33719b1712e5d3550", func := "loop.example/g00789/laws.FnExactHonestAct", spec := "fnExactHonestAct", apart := false, narrowed := true }
def FnExactHonestActUptoSaid : Prop := fnExactHonestActUptoRow.holds Try.pinned (OpenSpec.upto fnExactHonestActSpec)

/-- 'laws.FnExactHeldBy', WHERE WHAT IT READS IS OF BULK AT MOST 1048576: true; the input reads as it did. -/
def fnExactHeldByUptoRow : OpenClaim := { program := "ytaemegkdmbhpnaa", sum := "7fbde278fc6e708495650f361cd4c2de684d77cdb6651ab33719b1712e5d3550", func := "loop.example/g00789/laws.FnExactHeldBy", spec := "fnExactHeldBy", apart := false, narrowed := true }
def FnExactHeldByUptoSaid : Prop := fnExactHeldByUptoRow.holds Try.pinned (OpenSpec.upto fnExactHeldBySpec)

/-- 'laws.FnHeaps', WHERE WHAT IT READS IS OF BULK AT MOST 1048576: true; the input reads as it did. -/
def fnHeapsUptoRow : OpenClaim := { program := "ytaemegkdmbhpnaa", sum := "7fbde278fc6e708495650f361cd4c2de684d77cdb6651ab33719b1712e5d3550", func := "loop.example/g00789/laws.FnHeaps", spec := "fnHeaps", unfollowed := true, recurses := true, apart := false, narrowed := true }
def FnHeapsUptoSaid : Prop := fnHeapsUptoRow.holds Try.pinned (OpenSpec.upto fnHeapsSpec)

/-- 'laws.FnScheds', WHERE WHAT IT READS IS OF BULK AT MOST 1048576: true; the input reads as it did. -/
def fnSchedsUptoRow : OpenClaim := { program := "ytaemegkdmbhpnaa", sum := "7fbde278fc6e708495650f361cd4c2de684d77cdb6651ab33719b1712e5d3550", func := "loop.example/g00789/laws.FnScheds", spec := "fnScheds", unfollowed := true, recurses := true, apart := false, narrowed := true }
def FnSchedsUptoSaid : Prop := fnSchedsUptoRow.holds Try.pinned (OpenSpec.upto fnSchedsSpec)

/-- 'laws.FnPicks', WHERE WHAT IT READS IS OF BULK AT MOST 1048576: true; the input reads as it did. -/
def fnPicksUptoRow : OpenClaim := { program := "ytaemegkdmbhpnaa", sum := "7fbde278fc6e708495650f361cd4c2de684d77cdb6651ab33719b1712e5d3550", func := "loop.example/g00789/laws.FnPicks", spec := "fnPicks", unfollowed := true, recurses := true, apart := false, narrowed := true }
def FnPicksUptoSaid : Prop := fnPicksUptoRow.holds Try.pinned (OpenSpec.upto fnPicksSpec)

end Rows
end Go.Proofs.Ytaemegkdmbhpnaa
