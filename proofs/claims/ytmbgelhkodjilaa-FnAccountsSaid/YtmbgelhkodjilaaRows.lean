/-
  No cell of these rows narrows 'for every input' (looked for: loops, veiled, ifaces, maps, wideKeys, modest, calm, conditions, laid).
  DERIVED. THE GIVEN ROWS OF THIS SEAT. 6 by the template 'for every input the law returns true; each argument reads behind the call as it read before'; 0 by the template 'total and deterministic' (their statements: YtmbgelhkodjilaaTotals.lean).
  GIVEN WITH THE SEED: the statements are not yours to turn. If you find one false, say at which input.
  Laid BY PROGRAM, IN A SANDBOX (cutbox-rows.mjs): the forced cells as the released guide's own fill.sh prints them over the translation aa9d886d123b4c45… (all of the seat's roots in one cut). By AI agents, Wed Nov 11 2026. No macro, syntax, notation, axiom, sorry.
-/
import Derived.Test.YtmbgelhkodjilaaChecked
import GoSem.Claim
import GoSem.ClaimJoined
import GoSem.ClaimMapViews
import Derived.JoinedTies
import Derived.KernelRfl
namespace Go.Proofs.Ytmbgelhkodjilaa
/- THE CELL 'sum', in the pinned program and in every row, IS THE sha256 OF THE DUMP (.gsa) THAT YtmbgelhkodjilaaProg.lean LOADS. Nothing in Lean hashes anything: it is a label: what it is worth is what the hold of that sum in a sandbox is worth. -/
noncomputable def Try.pinned : Pinned := { name := "ytmbgelhkodjilaa", sum := "aa9d886d123b4c451961c47d2e1c19b5e176529364c1e8bf1c62a415ced1f394", checked := Try.checked }
namespace Rows
def none {H : Type} : Left H := { results := [], args := [] }

/-- 'laws.FnAccounts': WHATEVER THE INPUT: true; the input reads as it did. -/
def fnAccountsSpec : ChangeSpec := { name := "fnAccounts", fn := fun _ => fun
  | [d] => { results := [.lit (.bool true)], args := [d] }
  | _ => none }
def fnAccountsRow : OpenClaim := { program := "ytmbgelhkodjilaa", sum := "aa9d886d123b4c451961c47d2e1c19b5e176529364c1e8bf1c62a415ced1f394", func := "loop.example/g00789/laws.FnAccounts", spec := "fnAccounts", apart := false }
def FnAccountsSaid : Prop := fnAccountsRow.holds Try.pinned (OpenSpec.ofChange fnAccountsSpec)

/-- ITS FALSE NEIGHBOUR: 'it returns false'. Refute it at one input. -/
def fnAccountsWrong : ChangeSpec := { name := "fnAccounts", fn := fun _ => fun
  | [d] => { results := [.lit (.bool false)], args := [d] }
  | _ => none }
def FnAccountsWrongFalsely : Prop := fnAccountsRow.holds Try.pinned (OpenSpec.ofChange fnAccountsWrong)

/-- 'laws.FnExactAccountFault': WHATEVER THE INPUT: true; the input reads as it did. -/
def fnExactAccountFaultSpec : ChangeSpec := { name := "fnExactAccountFault", fn := fun _ => fun
  | [d] => { results := [.lit (.bool true)], args := [d] }
  | _ => none }
def fnExactAccountFaultRow : OpenClaim := { program := "ytmbgelhkodjilaa", sum := "aa9d886d123b4c451961c47d2e1c19b5e176529364c1e8bf1c62a415ced1f394", func := "loop.example/g00789/laws.FnExactAccountFault", spec := "fnExactAccountFault", apart := false }
def FnExactAccountFaultSaid : Prop := fnExactAccountFaultRow.holds Try.pinned (OpenSpec.ofChange fnExactAccountFaultSpec)

/-- ITS FALSE NEIGHBOUR: 'it returns false'. Refute it at one input. -/
def fnExactAccountFaultWrong : ChangeSpec := { name := "fnExactAccountFault", fn := fun _ => fun
  | [d] => { results := [.lit (.bool false)], args := [d] }
  | _ => none }
def FnExactAccountFaultWrongFalsely : Prop := fnExactAccountFaultRow.holds Try.pinned (OpenSpec.ofChange fnExactAccountFaultWrong)

/-- 'laws.FnExactUseTick': WHATEVER THE INPUT: true; the input reads as it did. -/
def fnExactUseTickSpec : ChangeSpec := { name := "fnExactUseTick", fn := fun _ => fun
  | [d1, d2] => { results := [.lit (.bool true)], args := [d1, d2] }
  | _ => none }
def fnExactUseTickRow : OpenClaim := { program := "ytmbgelhkodjilaa", sum := "aa9d886d123b4c451961c47d2e1c19b5e176529364c1e8bf1c62a415ced1f394", func := "loop.example/g00789/laws.FnExactUseTick", spec := "fnExactUseTick", apart := false }
def FnExactUseTickSaid : Prop := fnExactUseTickRow.holds Try.pinned (OpenSpec.ofChange fnExactUseTickSpec)

/-- ITS FALSE NEIGHBOUR: 'it returns false'. Refute it at one input. -/
def fnExactUseTickWrong : ChangeSpec := { name := "fnExactUseTick", fn := fun _ => fun
  | [d1, d2] => { results := [.lit (.bool false)], args := [d1, d2] }
  | _ => none }
def FnExactUseTickWrongFalsely : Prop := fnExactUseTickRow.holds Try.pinned (OpenSpec.ofChange fnExactUseTickWrong)

/-- 'laws.FnExactGiveTick': WHATEVER THE INPUT: true; the input reads as it did. -/
def fnExactGiveTickSpec : ChangeSpec := { name := "fnExactGiveTick", fn := fun _ => fun
  | [d] => { results := [.lit (.bool true)], args := [d] }
  | _ => none }
def fnExactGiveTickRow : OpenClaim := { program := "ytmbgelhkodjilaa", sum := "aa9d886d123b4c451961c47d2e1c19b5e176529364c1e8bf1c62a415ced1f394", func := "loop.example/g00789/laws.FnExactGiveTick", spec := "fnExactGiveTick", apart := false }
def FnExactGiveTickSaid : Prop := fnExactGiveTickRow.holds Try.pinned (OpenSpec.ofChange fnExactGiveTickSpec)

/-- ITS FALSE NEIGHBOUR: 'it returns false'. Refute it at one input. -/
def fnExactGiveTickWrong : ChangeSpec := { name := "fnExactGiveTick", fn := fun _ => fun
  | [d] => { results := [.lit (.bool false)], args := [d] }
  | _ => none }
def FnExactGiveTickWrongFalsely : Prop := fnExactGiveTickRow.holds Try.pinned (OpenSpec.ofChange fnExactGiveTickWrong)

/-- 'laws.FnExactPunishAccount': WHATEVER THE INPUT: true; the input reads as it did. -/
def fnExactPunishAccountSpec : ChangeSpec := { name := "fnExactPunishAccount", fn := fun _ => fun
  | [d] => { results := [.lit (.bool true)], args := [d] }
  | _ => none }
def fnExactPunishAccountRow : OpenClaim := { program := "ytmbgelhkodjilaa", sum := "aa9d886d123b4c451961c47d2e1c19b5e176529364c1e8bf1c62a415ced1f394", func := "loop.example/g00789/laws.FnExactPunishAccount", spec := "fnExactPunishAccount", apart := false }
def FnExactPunishAccountSaid : Prop := fnExactPunishAccountRow.holds Try.pinned (OpenSpec.ofChange fnExactPunishAccountSpec)

/-- ITS FALSE NEIGHBOUR: 'it returns false'. Refute it at one input. -/
def fnExactPunishAccountWrong : ChangeSpec := { name := "fnExactPunishAccount", fn := fun _ => fun
  | [d] => { results := [.lit (.bool false)], args := [d] }
  | _ => none }
def FnExactPunishAccountWrongFalsely : Prop := fnExactPunishAccountRow.holds Try.pinned (OpenSpec.ofChange fnExactPunishAccountWrong)

/-- 'laws.FnExactSkipAccount': WHATEVER THE INPUT: true; the input reads as it did. -/
def fnExactSkipAccountSpec : ChangeSpec := { name := "fnExactSkipAccount", fn := fun _ => fun
  | [d] => { results := [.lit (.bool true)], args := [d] }
  | _ => none }
def fnExactSkipAccountRow : OpenClaim := { program := "ytmbgelhkodjilaa", sum := "aa9d886d123b4c451961c47d2e1c19b5e176529364c1e8bf1c62a415ced1f394", func := "loop.example/g00789/laws.FnExactSkipAccount", spec := "fnExactSkipAccount", apart := false }
def FnExactSkipAccountSaid : Prop := fnExactSkipAccountRow.holds Try.pinned (OpenSpec.ofChange fnExactSkipAccountSpec)

/-- ITS FALSE NEIGHBOUR: 'it returns false'. Refute it at one input. -/
def fnExactSkipAccountWrong : ChangeSpec := { name := "fnExactSkipAccount", fn := fun _ => fun
  | [d] => { results := [.lit (.bool false)], args := [d] }
  | _ => none }
def FnExactSkipAccountWrongFalsely : Prop := fnExactSkipAccountRow.holds Try.pinned (OpenSpec.ofChange fnExactSkipAccountWrong)

/- THE SECOND FORM. 'bulk': how many values and letters a reading holds, each counted each time it is reached (what is shared counts as often as it is met; a slice's spare places count too). A statement '..UptoSaid' is the law's where the arguments, and the package variables that the reading takes, are together of bulk at most 1048576: NARROWER than '..Said'. Prove '..Said' where nothing that the law and all that it calls make is longer than what came in: it says more and counts as full. Else prove '..UptoSaid'. A law counts once. -/
mutual
def uptoBulk {H : Type} : DataW H → Nat
  | .lit (.string bytes) => bytes.length + 1
  | .lit _ => 1
  | .nil => 1
  | .ptr d => uptoBulk d + 1
  | .slice elems spare => uptoBulkAll elems + uptoBulkAll spare + 1
  | .agg parts => uptoBulkAll parts + 1
  | .iface _ d => uptoBulk d + 1
  | .map entries => uptoBulkEntries entries + 1
  | .held _ => 1
def uptoBulkAll {H : Type} : List (DataW H) → Nat
  | [] => 0
  | d :: r => uptoBulk d + uptoBulkAll r
def uptoBulkEntries {H : Type} : List (Lit × DataW H) → Nat
  | [] => 0
  | x :: r => uptoBulkEntry x + uptoBulkEntries r
def uptoBulkEntry {H : Type} : Lit × DataW H → Nat
  | (.string bytes, d) => bytes.length + uptoBulk d + 1
  | (_, d) => uptoBulk d + 1
 end
def uptoSmall : (H : Type) → List (DataW H) → Bool := fun _ ds => decide (uptoBulkAll ds ≤ 1048576)
def OpenSpec.upto (s : _root_.Go.ChangeSpec) : _root_.Go.OpenSpec := { _root_.Go.OpenSpec.ofChange s with cond := some uptoSmall }

/-- 'laws.FnAccounts', WHERE WHAT IT READS IS OF BULK AT MOST 1048576: true; the input reads as it did. -/
def fnAccountsUptoRow : OpenClaim := { program := "ytmbgelhkodjilaa", sum := "aa9d886d123b4c451961c47d2e1c19b5e176529364c1e8bf1c62a415ced1f394", func := "loop.example/g00789/laws.FnAccounts", spec := "fnAccounts", apart := false, narrowed := true }
def FnAccountsUptoSaid : Prop := fnAccountsUptoRow.holds Try.pinned (OpenSpec.upto fnAccountsSpec)

/-- 'laws.FnExactAccountFault', WHERE WHAT IT READS IS OF BULK AT MOST 1048576: true; the input reads as it did. -/
def fnExactAccountFaultUptoRow : OpenClaim := { program := "ytmbgelhkodjilaa", sum := "aa9d886d123b4c451961c47d2e1c19b5e176529364c1e8bf1c62a415ced1f394", func := "loop.example/g00789/laws.FnExactAccountFault", spec := "fnExactAccountFault", apart := false, narrowed := true }
def FnExactAccountFaultUptoSaid : Prop := fnExactAccountFaultUptoRow.holds Try.pinned (OpenSpec.upto fnExactAccountFaultSpec)

/-- 'laws.FnExactUseTick', WHERE WHAT IT READS IS OF BULK AT MOST 1048576: true; the input reads as it did. -/
def fnExactUseTickUptoRow : OpenClaim := { program := "ytmbgelhkodjilaa", sum := "aa9d886d123b4c451961c47d2e1c19b5e176529364c1e8bf1c62a415ced1f394", func := "loop.example/g00789/laws.FnExactUseTick", spec := "fnExactUseTick", apart := false, narrowed := true }
def FnExactUseTickUptoSaid : Prop := fnExactUseTickUptoRow.holds Try.pinned (OpenSpec.upto fnExactUseTickSpec)

/-- 'laws.FnExactGiveTick', WHERE WHAT IT READS IS OF BULK AT MOST 1048576: true; the input reads as it did. -/
def fnExactGiveTickUptoRow : OpenClaim := { program := "ytmbgelhkodjilaa", sum := "aa9d886d123b4c451961c47d2e1c19b5e176529364c1e8bf1c62a415ced1f394", func := "loop.example/g00789/laws.FnExactGiveTick", spec := "fnExactGiveTick", apart := false, narrowed := true }
def FnExactGiveTickUptoSaid : Prop := fnExactGiveTickUptoRow.holds Try.pinned (OpenSpec.upto fnExactGiveTickSpec)

/-- 'laws.FnExactPunishAccount', WHERE WHAT IT READS IS OF BULK AT MOST 1048576: true; the input reads as it did. -/
def fnExactPunishAccountUptoRow : OpenClaim := { program := "ytmbgelhkodjilaa", sum := "aa9d886d123b4c451961c47d2e1c19b5e176529364c1e8bf1c62a415ced1f394", func := "loop.example/g00789/laws.FnExactPunishAccount", spec := "fnExactPunishAccount", apart := false, narrowed := true }
def FnExactPunishAccountUptoSaid : Prop := fnExactPunishAccountUptoRow.holds Try.pinned (OpenSpec.upto fnExactPunishAccountSpec)

/-- 'laws.FnExactSkipAccount', WHERE WHAT IT READS IS OF BULK AT MOST 1048576: true; the input reads as it did. -/
def fnExactSkipAccountUptoRow : OpenClaim := { program := "ytmbgelhkodjilaa", sum := "aa9d886d123b4c451961c47d2e1c19b5e176529364c1e8bf1c62a415ced1f394", func := "loop.example/g00789/laws.FnExactSkipAccount", spec := "fnExactSkipAccount", apart := false, narrowed := true }
def FnExactSkipAccountUptoSaid : Prop := fnExactSkipAccountUptoRow.holds Try.pinned (OpenSpec.upto fnExactSkipAccountSpec)

end Rows
end Go.Proofs.Ytmbgelhkodjilaa
