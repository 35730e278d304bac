/-
  No cell of these rows narrows 'for every input' (looked for: loops, veiled, ifaces, maps, wideKeys, modest, calm, conditions, laid).
  DERIVED. THE GIVEN ROWS OF THIS SEAT. 4 by the template 'for every input the law returns true; each argument reads behind the call as it read before'; 0 by the template 'total and deterministic' (their statements: YtckapndpefkcgaaTotals.lean).
  GIVEN WITH THE SEED: the statements are not yours to turn. If you find one false, say at which input.
  Laid BY PROGRAM, IN A SANDBOX (cutbox-rows.mjs): the forced cells as the released guide's own fill.sh prints them over the translation ec80d5fe67aa3ff2… (all of the seat's roots in one cut). By AI agents, Wed Nov 11 2026. No macro, syntax, notation, axiom, sorry.
-/
import Derived.Test.YtckapndpefkcgaaChecked
import GoSem.Claim
import GoSem.ClaimJoined
import GoSem.ClaimMapViews
import Derived.JoinedTies
import Derived.KernelRfl
namespace Go.Proofs.Ytckapndpefkcgaa
/- THE CELL 'sum', in the pinned program and in every row, IS THE sha256 OF THE DUMP (.gsa) THAT YtckapndpefkcgaaProg.lean LOADS. Nothing in Lean hashes anything: it is a label: what it is worth is what the hold of that sum in a sandbox is worth. -/
noncomputable def Try.pinned : Pinned := { name := "ytckapndpefkcgaa", sum := "ec80d5fe67aa3ff292a4577f8b45163adbea99a39cb482a58f7261a2d58d9993", checked := Try.checked }
namespace Rows
def none {H : Type} : Left H := { results := [], args := [] }

/-- 'laws.FnHeaps': WHATEVER THE INPUT: true; the input reads as it did. -/
def fnHeapsSpec : ChangeSpec := { name := "fnHeaps", fn := fun _ => fun
  | [d] => { results := [.lit (.bool true)], args := [d] }
  | _ => none }
def fnHeapsRow : OpenClaim := { program := "ytckapndpefkcgaa", sum := "ec80d5fe67aa3ff292a4577f8b45163adbea99a39cb482a58f7261a2d58d9993", func := "loop.example/g00789/laws.FnHeaps", spec := "fnHeaps", unfollowed := true, recurses := true, apart := false }
def FnHeapsSaid : Prop := fnHeapsRow.holds Try.pinned (OpenSpec.ofChange fnHeapsSpec)

/-- ITS FALSE NEIGHBOUR: 'it returns false'. Refute it at one input. -/
def fnHeapsWrong : ChangeSpec := { name := "fnHeaps", fn := fun _ => fun
  | [d] => { results := [.lit (.bool false)], args := [d] }
  | _ => none }
def FnHeapsWrongFalsely : Prop := fnHeapsRow.holds Try.pinned (OpenSpec.ofChange fnHeapsWrong)

/-- 'laws.FnFairs': WHATEVER THE INPUT: true; the input reads as it did. -/
def fnFairsSpec : ChangeSpec := { name := "fnFairs", fn := fun _ => fun
  | [d] => { results := [.lit (.bool true)], args := [d] }
  | _ => none }
def fnFairsRow : OpenClaim := { program := "ytckapndpefkcgaa", sum := "ec80d5fe67aa3ff292a4577f8b45163adbea99a39cb482a58f7261a2d58d9993", func := "loop.example/g00789/laws.FnFairs", spec := "fnFairs", unfollowed := true, recurses := true, apart := false }
def FnFairsSaid : Prop := fnFairsRow.holds Try.pinned (OpenSpec.ofChange fnFairsSpec)

/-- ITS FALSE NEIGHBOUR: 'it returns false'. Refute it at one input. -/
def fnFairsWrong : ChangeSpec := { name := "fnFairs", fn := fun _ => fun
  | [d] => { results := [.lit (.bool false)], args := [d] }
  | _ => none }
def FnFairsWrongFalsely : Prop := fnFairsRow.holds Try.pinned (OpenSpec.ofChange fnFairsWrong)

/-- 'laws.FnScheds': WHATEVER THE INPUT: true; the input reads as it did. -/
def fnSchedsSpec : ChangeSpec := { name := "fnScheds", fn := fun _ => fun
  | [d] => { results := [.lit (.bool true)], args := [d] }
  | _ => none }
def fnSchedsRow : OpenClaim := { program := "ytckapndpefkcgaa", sum := "ec80d5fe67aa3ff292a4577f8b45163adbea99a39cb482a58f7261a2d58d9993", func := "loop.example/g00789/laws.FnScheds", spec := "fnScheds", unfollowed := true, recurses := true, apart := false }
def FnSchedsSaid : Prop := fnSchedsRow.holds Try.pinned (OpenSpec.ofChange fnSchedsSpec)

/-- ITS FALSE NEIGHBOUR: 'it returns false'. Refute it at one input. -/
def fnSchedsWrong : ChangeSpec := { name := "fnScheds", fn := fun _ => fun
  | [d] => { results := [.lit (.bool false)], args := [d] }
  | _ => none }
def FnSchedsWrongFalsely : Prop := fnSchedsRow.holds Try.pinned (OpenSpec.ofChange fnSchedsWrong)

/-- 'laws.FnPicks': WHATEVER THE INPUT: true; the input reads as it did. -/
def fnPicksSpec : ChangeSpec := { name := "fnPicks", fn := fun _ => fun
  | [d] => { results := [.lit (.bool true)], args := [d] }
  | _ => none }
def fnPicksRow : OpenClaim := { program := "ytckapndpefkcgaa", sum := "ec80d5fe67aa3ff292a4577f8b45163adbea99a39cb482a58f7261a2d58d9993", func := "loop.example/g00789/laws.FnPicks", spec := "fnPicks", unfollowed := true, recurses := true, apart := false }
def FnPicksSaid : Prop := fnPicksRow.holds Try.pinned (OpenSpec.ofChange fnPicksSpec)

/-- ITS FALSE NEIGHBOUR: 'it returns false'. Refute it at one input. -/
def fnPicksWrong : ChangeSpec := { name := "fnPicks", fn := fun _ => fun
  | [d] => { results := [.lit (.bool false)], args := [d] }
  | _ => none }
def FnPicksWrongFalsely : Prop := fnPicksRow.holds Try.pinned (OpenSpec.ofChange fnPicksWrong)

/- THE SECOND FORM. 'bulk': how many values and letters a reading holds, each counted each time it is reached (what is shared counts as often as it is met; a slice's spare places count too). A statement '..UptoSaid' is the law's where the arguments, and the package variables that the reading takes, are together of bulk at most 1048576: NARROWER than '..Said'. Prove '..Said' where nothing that the law and all that it calls make is longer than what came in: it says more and counts as full. Else prove '..UptoSaid'. A law counts once. -/
mutual
def uptoBulk {H : Type} : DataW H → Nat
  | .lit (.string bytes) => bytes.length + 1
  | .lit _ => 1
  | .nil => 1
  | .ptr d => uptoBulk d + 1
  | .slice elems spare => uptoBulkAll elems + uptoBulkAll spare + 1
  | .agg parts => uptoBulkAll parts + 1
  | .iface _ d => uptoBulk d + 1
  | .map entries => uptoBulkEntries entries + 1
  | .held _ => 1
def uptoBulkAll {H : Type} : List (DataW H) → Nat
  | [] => 0
  | d :: r => uptoBulk d + uptoBulkAll r
def uptoBulkEntries {H : Type} : List (Lit × DataW H) → Nat
  | [] => 0
  | x :: r => uptoBulkEntry x + uptoBulkEntries r
def uptoBulkEntry {H : Type} : Lit × DataW H → Nat
  | (.string bytes, d) => bytes.length + uptoBulk d + 1
  | (_, d) => uptoBulk d + 1
 end
def uptoSmall : (H : Type) → List (DataW H) → Bool := fun _ ds => decide (uptoBulkAll ds ≤ 1048576)
def OpenSpec.upto (s : _root_.Go.ChangeSpec) : _root_.Go.OpenSpec := { _root_.Go.OpenSpec.ofChange s with cond := some uptoSmall }

/-- 'laws.FnHeaps', WHERE WHAT IT READS IS OF BULK AT MOST 1048576: true; the input reads as it did. -/
def fnHeapsUptoRow : OpenClaim := { program := "ytckapndpefkcgaa", sum := "ec80d5fe67aa3ff292a4577f8b45163adbea99a39cb482a58f7261a2d58d9993", func := "loop.example/g00789/laws.FnHeaps", spec := "fnHeaps", unfollowed := true, recurses := true, apart := false, narrowed := true }
def FnHeapsUptoSaid : Prop := fnHeapsUptoRow.holds Try.pinned (OpenSpec.upto fnHeapsSpec)

/-- 'laws.FnFairs', WHERE WHAT IT READS IS OF BULK AT MOST 1048576: true; the input reads as it did. -/
def fnFairsUptoRow : OpenClaim := { program := "ytckapndpefkcgaa", sum := "ec80d5fe67aa3ff292a4577f8b45163adbea99a39cb482a58f7261a2d58d9993", func := "loop.example/g00789/laws.FnFairs", spec := "fnFairs", unfollowed := true, recurses := true, apart := false, narrowed := true }
def FnFairsUptoSaid : Prop := fnFairsUptoRow.holds Try.pinned (OpenSpec.upto fnFairsSpec)

/-- 'laws.FnScheds', WHERE WHAT IT READS IS OF BULK AT MOST 1048576: true; the input reads as it did. -/
def fnSchedsUptoRow : OpenClaim := { program := "ytckapndpefkcgaa", sum := "ec80d5fe67aa3ff292a4577f8b45163adbea99a39cb482a58f7261a2d58d9993", func := "loop.example/g00789/laws.FnScheds", spec := "fnScheds", unfollowed := true, recurses := true, apart := false, narrowed := true }
def FnSchedsUptoSaid : Prop := fnSchedsUptoRow.holds Try.pinned (OpenSpec.upto fnSchedsSpec)

/-- 'laws.FnPicks', WHERE WHAT IT READS IS OF BULK AT MOST 1048576: true; the input reads as it did. -/
def fnPicksUptoRow : OpenClaim := { program := "ytckapndpefkcgaa", sum := "ec80d5fe67aa3ff292a4577f8b45163adbea99a39cb482a58f7261a2d58d9993", func := "loop.example/g00789/laws.FnPicks", spec := "fnPicks", unfollowed := true, recurses := true, apart := false, narrowed := true }
def FnPicksUptoSaid : Prop := fnPicksUptoRow.holds Try.pinned (OpenSpec.upto fnPicksSpec)

end Rows
end Go.Proofs.Ytckapndpefkcgaa
