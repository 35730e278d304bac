/-
  No cell of these rows narrows 'for every input' (looked for: loops, veiled, ifaces, maps, wideKeys, modest, calm, conditions, laid).
  DERIVED. THE GIVEN ROWS OF THIS SEAT. 9 by the template 'for every input the law returns true; each argument reads behind the call as it read before'; 0 by the template 'total and deterministic' (their statements: YtdinhehcbbmpbaaTotals.lean).
  GIVEN WITH THE SEED: the statements are not yours to turn. If you find one false, say at which input.
  Laid BY PROGRAM, IN A SANDBOX (cutbox-rows.mjs): the forced cells as the released guide's own fill.sh prints them over the translation cdac9fa9cd04eaac… (all of the seat's roots in one cut). By AI agents, Wed Nov 11 2026. No macro, syntax, notation, axiom, sorry.
-/
import Derived.Test.YtdinhehcbbmpbaaChecked
import GoSem.Claim
import GoSem.ClaimJoined
import GoSem.ClaimMapViews
import Derived.JoinedTies
import Derived.KernelRfl
namespace Go.Proofs.Ytdinhehcbbmpbaa
/- THE CELL 'sum', in the pinned program and in every row, IS THE sha256 OF THE DUMP (.gsa) THAT YtdinhehcbbmpbaaProg.lean LOADS. Nothing in Lean hashes anything: it is a label: what it is worth is what the hold of that sum in a sandbox is worth. -/
noncomputable def Try.pinned : Pinned := { name := "ytdinhehcbbmpbaa", sum := "cdac9fa9cd04eaac894e3d2969d5efe3c03d18330f038042b08e87da3a705a71", checked := Try.checked }
namespace Rows
def none {H : Type} : Left H := { results := [], args := [] }

/-- 'laws.FnVectors': WHATEVER THE INPUT: true; the input reads as it did. -/
def fnVectorsSpec : ChangeSpec := { name := "fnVectors", fn := fun _ => fun
  | [d] => { results := [.lit (.bool true)], args := [d] }
  | _ => none }
def fnVectorsRow : OpenClaim := { program := "ytdinhehcbbmpbaa", sum := "cdac9fa9cd04eaac894e3d2969d5efe3c03d18330f038042b08e87da3a705a71", func := "loop.example/g00789/laws.FnVectors", spec := "fnVectors", apart := false }
def FnVectorsSaid : Prop := fnVectorsRow.holds Try.pinned (OpenSpec.ofChange fnVectorsSpec)

/-- ITS FALSE NEIGHBOUR: 'it returns false'. Refute it at one input. -/
def fnVectorsWrong : ChangeSpec := { name := "fnVectors", fn := fun _ => fun
  | [d] => { results := [.lit (.bool false)], args := [d] }
  | _ => none }
def FnVectorsWrongFalsely : Prop := fnVectorsRow.holds Try.pinned (OpenSpec.ofChange fnVectorsWrong)

/-- 'laws.FnExactVectorFault': WHATEVER THE INPUT: true; the input reads as it did. -/
def fnExactVectorFaultSpec : ChangeSpec := { name := "fnExactVectorFault", fn := fun _ => fun
  | [d] => { results := [.lit (.bool true)], args := [d] }
  | _ => none }
def fnExactVectorFaultRow : OpenClaim := { program := "ytdinhehcbbmpbaa", sum := "cdac9fa9cd04eaac894e3d2969d5efe3c03d18330f038042b08e87da3a705a71", func := "loop.example/g00789/laws.FnExactVectorFault", spec := "fnExactVectorFault", apart := false }
def FnExactVectorFaultSaid : Prop := fnExactVectorFaultRow.holds Try.pinned (OpenSpec.ofChange fnExactVectorFaultSpec)

/-- ITS FALSE NEIGHBOUR: 'it returns false'. Refute it at one input. -/
def fnExactVectorFaultWrong : ChangeSpec := { name := "fnExactVectorFault", fn := fun _ => fun
  | [d] => { results := [.lit (.bool false)], args := [d] }
  | _ => none }
def FnExactVectorFaultWrongFalsely : Prop := fnExactVectorFaultRow.holds Try.pinned (OpenSpec.ofChange fnExactVectorFaultWrong)

/-- 'laws.FnExactNewVector': WHATEVER THE INPUT: true; the input reads as it did. -/
def fnExactNewVectorSpec : ChangeSpec := { name := "fnExactNewVector", fn := fun _ => fun
  | [d] => { results := [.lit (.bool true)], args := [d] }
  | _ => none }
def fnExactNewVectorRow : OpenClaim := { program := "ytdinhehcbbmpbaa", sum := "cdac9fa9cd04eaac894e3d2969d5efe3c03d18330f038042b08e87da3a705a71", func := "loop.example/g00789/laws.FnExactNewVector", spec := "fnExactNewVector", apart := false }
def FnExactNewVectorSaid : Prop := fnExactNewVectorRow.holds Try.pinned (OpenSpec.ofChange fnExactNewVectorSpec)

/-- ITS FALSE NEIGHBOUR: 'it returns false'. Refute it at one input. -/
def fnExactNewVectorWrong : ChangeSpec := { name := "fnExactNewVector", fn := fun _ => fun
  | [d] => { results := [.lit (.bool false)], args := [d] }
  | _ => none }
def FnExactNewVectorWrongFalsely : Prop := fnExactNewVectorRow.holds Try.pinned (OpenSpec.ofChange fnExactNewVectorWrong)

/-- 'laws.FnExactTakeSlot': WHATEVER THE INPUT: true; the input reads as it did. -/
def fnExactTakeSlotSpec : ChangeSpec := { name := "fnExactTakeSlot", fn := fun _ => fun
  | [d1, d2, d3] => { results := [.lit (.bool true)], args := [d1, d2, d3] }
  | _ => none }
def fnExactTakeSlotRow : OpenClaim := { program := "ytdinhehcbbmpbaa", sum := "cdac9fa9cd04eaac894e3d2969d5efe3c03d18330f038042b08e87da3a705a71", func := "loop.example/g00789/laws.FnExactTakeSlot", spec := "fnExactTakeSlot", apart := false }
def FnExactTakeSlotSaid : Prop := fnExactTakeSlotRow.holds Try.pinned (OpenSpec.ofChange fnExactTakeSlotSpec)

/-- ITS FALSE NEIGHBOUR: 'it returns false'. Refute it at one input. -/
def fnExactTakeSlotWrong : ChangeSpec := { name := "fnExactTakeSlot", fn := fun _ => fun
  | [d1, d2, d3] => { results := [.lit (.bool false)], args := [d1, d2, d3] }
  | _ => none }
def FnExactTakeSlotWrongFalsely : Prop := fnExactTakeSlotRow.holds Try.pinned (OpenSpec.ofChange fnExactTakeSlotWrong)

/-- 'laws.FnExactFreeSlot': WHATEVER THE INPUT: true; the input reads as it did. -/
def fnExactFreeSlotSpec : ChangeSpec := { name := "fnExactFreeSlot", fn := fun _ => fun
  | [d1, d2, d3] => { results := [.lit (.bool true)], args := [d1, d2, d3] }
  | _ => none }
def fnExactFreeSlotRow : OpenClaim := { program := "ytdinhehcbbmpbaa", sum := "cdac9fa9cd04eaac894e3d2969d5efe3c03d18330f038042b08e87da3a705a71", func := "loop.example/g00789/laws.FnExactFreeSlot", spec := "fnExactFreeSlot", apart := false }
def FnExactFreeSlotSaid : Prop := fnExactFreeSlotRow.holds Try.pinned (OpenSpec.ofChange fnExactFreeSlotSpec)

/-- ITS FALSE NEIGHBOUR: 'it returns false'. Refute it at one input. -/
def fnExactFreeSlotWrong : ChangeSpec := { name := "fnExactFreeSlot", fn := fun _ => fun
  | [d1, d2, d3] => { results := [.lit (.bool false)], args := [d1, d2, d3] }
  | _ => none }
def FnExactFreeSlotWrongFalsely : Prop := fnExactFreeSlotRow.holds Try.pinned (OpenSpec.ofChange fnExactFreeSlotWrong)

/-- 'laws.FnExactMoveSlot': WHATEVER THE INPUT: true; the input reads as it did. -/
def fnExactMoveSlotSpec : ChangeSpec := { name := "fnExactMoveSlot", fn := fun _ => fun
  | [d1, d2, d3, d4] => { results := [.lit (.bool true)], args := [d1, d2, d3, d4] }
  | _ => none }
def fnExactMoveSlotRow : OpenClaim := { program := "ytdinhehcbbmpbaa", sum := "cdac9fa9cd04eaac894e3d2969d5efe3c03d18330f038042b08e87da3a705a71", func := "loop.example/g00789/laws.FnExactMoveSlot", spec := "fnExactMoveSlot", apart := false }
def FnExactMoveSlotSaid : Prop := fnExactMoveSlotRow.holds Try.pinned (OpenSpec.ofChange fnExactMoveSlotSpec)

/-- ITS FALSE NEIGHBOUR: 'it returns false'. Refute it at one input. -/
def fnExactMoveSlotWrong : ChangeSpec := { name := "fnExactMoveSlot", fn := fun _ => fun
  | [d1, d2, d3, d4] => { results := [.lit (.bool false)], args := [d1, d2, d3, d4] }
  | _ => none }
def FnExactMoveSlotWrongFalsely : Prop := fnExactMoveSlotRow.holds Try.pinned (OpenSpec.ofChange fnExactMoveSlotWrong)

/-- 'laws.FnExactDropSlots': WHATEVER THE INPUT: true; the input reads as it did. -/
def fnExactDropSlotsSpec : ChangeSpec := { name := "fnExactDropSlots", fn := fun _ => fun
  | [d1, d2] => { results := [.lit (.bool true)], args := [d1, d2] }
  | _ => none }
def fnExactDropSlotsRow : OpenClaim := { program := "ytdinhehcbbmpbaa", sum := "cdac9fa9cd04eaac894e3d2969d5efe3c03d18330f038042b08e87da3a705a71", func := "loop.example/g00789/laws.FnExactDropSlots", spec := "fnExactDropSlots", apart := false }
def FnExactDropSlotsSaid : Prop := fnExactDropSlotsRow.holds Try.pinned (OpenSpec.ofChange fnExactDropSlotsSpec)

/-- ITS FALSE NEIGHBOUR: 'it returns false'. Refute it at one input. -/
def fnExactDropSlotsWrong : ChangeSpec := { name := "fnExactDropSlots", fn := fun _ => fun
  | [d1, d2] => { results := [.lit (.bool false)], args := [d1, d2] }
  | _ => none }
def FnExactDropSlotsWrongFalsely : Prop := fnExactDropSlotsRow.holds Try.pinned (OpenSpec.ofChange fnExactDropSlotsWrong)

/-- 'laws.FnExactCountSlots': WHATEVER THE INPUT: true; the input reads as it did. -/
def fnExactCountSlotsSpec : ChangeSpec := { name := "fnExactCountSlots", fn := fun _ => fun
  | [d1, d2] => { results := [.lit (.bool true)], args := [d1, d2] }
  | _ => none }
def fnExactCountSlotsRow : OpenClaim := { program := "ytdinhehcbbmpbaa", sum := "cdac9fa9cd04eaac894e3d2969d5efe3c03d18330f038042b08e87da3a705a71", func := "loop.example/g00789/laws.FnExactCountSlots", spec := "fnExactCountSlots", apart := false }
def FnExactCountSlotsSaid : Prop := fnExactCountSlotsRow.holds Try.pinned (OpenSpec.ofChange fnExactCountSlotsSpec)

/-- ITS FALSE NEIGHBOUR: 'it returns false'. Refute it at one input. -/
def fnExactCountSlotsWrong : ChangeSpec := { name := "fnExactCountSlots", fn := fun _ => fun
  | [d1, d2] => { results := [.lit (.bool false)], args := [d1, d2] }
  | _ => none }
def FnExactCountSlotsWrongFalsely : Prop := fnExactCountSlotsRow.holds Try.pinned (OpenSpec.ofChange fnExactCountSlotsWrong)

/-- 'laws.FnExactSameInts': WHATEVER THE INPUT: true; the input reads as it did. -/
def fnExactSameIntsSpec : ChangeSpec := { name := "fnExactSameInts", fn := fun _ => fun
  | [d1, d2] => { results := [.lit (.bool true)], args := [d1, d2] }
  | _ => none }
def fnExactSameIntsRow : OpenClaim := { program := "ytdinhehcbbmpbaa", sum := "cdac9fa9cd04eaac894e3d2969d5efe3c03d18330f038042b08e87da3a705a71", func := "loop.example/g00789/laws.FnExactSameInts", spec := "fnExactSameInts", apart := false }
def FnExactSameIntsSaid : Prop := fnExactSameIntsRow.holds Try.pinned (OpenSpec.ofChange fnExactSameIntsSpec)

/-- ITS FALSE NEIGHBOUR: 'it returns false'. Refute it at one input. -/
def fnExactSameIntsWrong : ChangeSpec := { name := "fnExactSameInts", fn := fun _ => fun
  | [d1, d2] => { results := [.lit (.bool false)], args := [d1, d2] }
  | _ => none }
def FnExactSameIntsWrongFalsely : Prop := fnExactSameIntsRow.holds Try.pinned (OpenSpec.ofChange fnExactSameIntsWrong)

/- THE SECOND FORM. 'bulk': how many values and letters a reading holds, each counted each time it is reached (what is shared counts as often as it is met; a slice's spare places count too). A statement '..UptoSaid' is the law's where the arguments, and the package variables that the reading takes, are together of bulk at most 1048576: NARROWER than '..Said'. Prove '..Said' where nothing that the law and all that it calls make is longer than what came in: it says more and counts as full. Else prove '..UptoSaid'. A law counts once. -/
mutual
def uptoBulk {H : Type} : DataW H → Nat
  | .lit (.string bytes) => bytes.length + 1
  | .lit _ => 1
  | .nil => 1
  | .ptr d => uptoBulk d + 1
  | .slice elems spare => uptoBulkAll elems + uptoBulkAll spare + 1
  | .agg parts => uptoBulkAll parts + 1
  | .iface _ d => uptoBulk d + 1
  | .map entries => uptoBulkEntries entries + 1
  | .held _ => 1
def uptoBulkAll {H : Type} : List (DataW H) → Nat
  | [] => 0
  | d :: r => uptoBulk d + uptoBulkAll r
def uptoBulkEntries {H : Type} : List (Lit × DataW H) → Nat
  | [] => 0
  | x :: r => uptoBulkEntry x + uptoBulkEntries r
def uptoBulkEntry {H : Type} : Lit × DataW H → Nat
  | (.string bytes, d) => bytes.length + uptoBulk d + 1
  | (_, d) => uptoBulk d + 1
 end
def uptoSmall : (H : Type) → List (DataW H) → Bool := fun _ ds => decide (uptoBulkAll ds ≤ 1048576)
def OpenSpec.upto (s : _root_.Go.ChangeSpec) : _root_.Go.OpenSpec := { _root_.Go.OpenSpec.ofChange s with cond := some uptoSmall }

/-- 'laws.FnVectors', WHERE WHAT IT READS IS OF BULK AT MOST 1048576: true; the input reads as it did. -/
def fnVectorsUptoRow : OpenClaim := { program := "ytdinhehcbbmpbaa", sum := "cdac9fa9cd04eaac894e3d2969d5efe3c03d18330f038042b08e87da3a705a71", func := "loop.example/g00789/laws.FnVectors", spec := "fnVectors", apart := false, narrowed := true }
def FnVectorsUptoSaid : Prop := fnVectorsUptoRow.holds Try.pinned (OpenSpec.upto fnVectorsSpec)

/-- 'laws.FnExactVectorFault', WHERE WHAT IT READS IS OF BULK AT MOST 1048576: true; the input reads as it did. -/
def fnExactVectorFaultUptoRow : OpenClaim := { program := "ytdinhehcbbmpbaa", sum := "cdac9fa9cd04eaac894e3d2969d5efe3c03d18330f038042b08e87da3a705a71", func := "loop.example/g00789/laws.FnExactVectorFault", spec := "fnExactVectorFault", apart := false, narrowed := true }
def FnExactVectorFaultUptoSaid : Prop := fnExactVectorFaultUptoRow.holds Try.pinned (OpenSpec.upto fnExactVectorFaultSpec)

/-- 'laws.FnExactNewVector', WHERE WHAT IT READS IS OF BULK AT MOST 1048576: true; the input reads as it did. -/
def fnExactNewVectorUptoRow : OpenClaim := { program := "ytdinhehcbbmpbaa", sum := "cdac9fa9cd04eaac894e3d2969d5efe3c03d18330f038042b08e87da3a705a71", func := "loop.example/g00789/laws.FnExactNewVector", spec := "fnExactNewVector", apart := false, narrowed := true }
def FnExactNewVectorUptoSaid : Prop := fnExactNewVectorUptoRow.holds Try.pinned (OpenSpec.upto fnExactNewVectorSpec)

/-- 'laws.FnExactTakeSlot', WHERE WHAT IT READS IS OF BULK AT MOST 1048576: true; the input reads as it did. -/
def fnExactTakeSlotUptoRow : OpenClaim := { program := "ytdinhehcbbmpbaa", sum := "cdac9fa9cd04eaac894e3d2969d5efe3c03d18330f038042b08e87da3a705a71", func := "loop.example/g00789/laws.FnExactTakeSlot", spec := "fnExactTakeSlot", apart := false, narrowed := true }
def FnExactTakeSlotUptoSaid : Prop := fnExactTakeSlotUptoRow.holds Try.pinned (OpenSpec.upto fnExactTakeSlotSpec)

/-- 'laws.FnExactFreeSlot', WHERE WHAT IT READS IS OF BULK AT MOST 1048576: true; the input reads as it did. -/
def fnExactFreeSlotUptoRow : OpenClaim := { program := "ytdinhehcbbmpbaa", sum := "cdac9fa9cd04eaac894e3d2969d5efe3c03d18330f038042b08e87da3a705a71", func := "loop.example/g00789/laws.FnExactFreeSlot", spec := "fnExactFreeSlot", apart := false, narrowed := true }
def FnExactFreeSlotUptoSaid : Prop := fnExactFreeSlotUptoRow.holds Try.pinned (OpenSpec.upto fnExactFreeSlotSpec)

/-- 'laws.FnExactMoveSlot', WHERE WHAT IT READS IS OF BULK AT MOST 1048576: true; the input reads as it did. -/
def fnExactMoveSlotUptoRow : OpenClaim := { program := "ytdinhehcbbmpbaa", sum := "cdac9fa9cd04eaac894e3d2969d5efe3c03d18330f038042b08e87da3a705a71", func := "loop.example/g00789/laws.FnExactMoveSlot", spec := "fnExactMoveSlot", apart := false, narrowed := true }
def FnExactMoveSlotUptoSaid : Prop := fnExactMoveSlotUptoRow.holds Try.pinned (OpenSpec.upto fnExactMoveSlotSpec)

/-- 'laws.FnExactDropSlots', WHERE WHAT IT READS IS OF BULK AT MOST 1048576: true; the input reads as it did. -/
def fnExactDropSlotsUptoRow : OpenClaim := { program := "ytdinhehcbbmpbaa", sum := "cdac9fa9cd04eaac894e3d2969d5efe3c03d18330f038042b08e87da3a705a71", func := "loop.example/g00789/laws.FnExactDropSlots", spec := "fnExactDropSlots", apart := false, narrowed := true }
def FnExactDropSlotsUptoSaid : Prop := fnExactDropSlotsUptoRow.holds Try.pinned (OpenSpec.upto fnExactDropSlotsSpec)

/-- 'laws.FnExactCountSlots', WHERE WHAT IT READS IS OF BULK AT MOST 1048576: true; the input reads as it did. -/
def fnExactCountSlotsUptoRow : OpenClaim := { program := "ytdinhehcbbmpbaa", sum := "cdac9fa9cd04eaac894e3d2969d5efe3c03d18330f038042b08e87da3a705a71", func := "loop.example/g00789/laws.FnExactCountSlots", spec := "fnExactCountSlots", apart := false, narrowed := true }
def FnExactCountSlotsUptoSaid : Prop := fnExactCountSlotsUptoRow.holds Try.pinned (OpenSpec.upto fnExactCountSlotsSpec)

/-- 'laws.FnExactSameInts', WHERE WHAT IT READS IS OF BULK AT MOST 1048576: true; the input reads as it did. -/
def fnExactSameIntsUptoRow : OpenClaim := { program := "ytdinhehcbbmpbaa", sum := "cdac9fa9cd04eaac894e3d2969d5efe3c03d18330f038042b08e87da3a705a71", func := "loop.example/g00789/laws.FnExactSameInts", spec := "fnExactSameInts", apart := false, narrowed := true }
def FnExactSameIntsUptoSaid : Prop := fnExactSameIntsUptoRow.holds Try.pinned (OpenSpec.upto fnExactSameIntsSpec)

end Rows
end Go.Proofs.Ytdinhehcbbmpbaa
