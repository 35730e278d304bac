/-
  DERIVED. GIVEN WITH THE SEED: THE CARDS: each row of YtfgllhomnmacfaaDoorRows.lean that lists a variable, with what it lists TIED to the program's text (the seventh form; the later family's looks); each row that meets fmt, with fmt's text TOLD by the authors' own Lean function (tested against real Go, not proved from fmt's source: count such statements apart). THE CARD IS WHAT COUNTS. Prove the row's statement (the work); the ties are given (YtfgllhomnmacfaaDoorTie.lean); close each card by the builder's one call (the guide's Derived/Test/ToyasCard.lean, 'card_holds'). Laid BY PROGRAM, IN A SANDBOX (cutbox-door.mjs). By AI agents, Wed Nov 11 2026. No macro, syntax, notation, axiom, sorry.
-/
import Derived.Test.YtfgllhomnmacfaaDoorRows
import GoSem.ClaimSeven
namespace Go.Proofs.YtfgllhomnmacfaaDoor
namespace Rows

/-- THE TIED CARD OF 'laws.FnLocks'. -/
def fnLocksCard : Claim7 := { stood := { row := fnLocksRow, standIns := [], harness := (true, "9fef4f6b4113378a939cad41c25e980e60c9bd1c62789bbc5ff7c0336e7b808e"), looks := true }, kinds := [], alts := [], laidByText := true, laidKinds := [.sentinel, .sentinel, .sentinel, .sentinel, .sentinel, .sentinel], laidTests := true, laidLooks := .later }
def FnLocksCardSaid : Prop := Claim7.holds Tryd.pinned (.plain (OpenSpec.ofChange fnLocksSpec)) fnLocksCard

/-- THE TIED CARD OF 'laws.FnWakes'. -/
def fnWakesCard : Claim7 := { stood := { row := fnWakesRow, standIns := [], harness := (true, "9fef4f6b4113378a939cad41c25e980e60c9bd1c62789bbc5ff7c0336e7b808e"), looks := true }, kinds := [], alts := [], laidByText := true, laidKinds := [.sentinel, .sentinel, .sentinel, .sentinel, .sentinel, .sentinel], laidTests := true, laidLooks := .later }
def FnWakesCardSaid : Prop := Claim7.holds Tryd.pinned (.plain (OpenSpec.ofChange fnWakesSpec)) fnWakesCard

/-- THE TIED CARD OF 'laws.FnExactLockFault'. -/
def fnExactLockFaultCard : Claim7 := { stood := { row := fnExactLockFaultRow, standIns := [], harness := (true, "9fef4f6b4113378a939cad41c25e980e60c9bd1c62789bbc5ff7c0336e7b808e"), looks := true }, kinds := [], alts := [], laidByText := true, laidKinds := [.sentinel, .sentinel, .sentinel, .sentinel, .sentinel, .sentinel], laidTests := true, laidLooks := .later }
def FnExactLockFaultCardSaid : Prop := Claim7.holds Tryd.pinned (.plain (OpenSpec.ofChange fnExactLockFaultSpec)) fnExactLockFaultCard

/-- THE TIED CARD OF 'laws.FnExactQueueFault'. -/
def fnExactQueueFaultCard : Claim7 := { stood := { row := fnExactQueueFaultRow, standIns := [], harness := (true, "9fef4f6b4113378a939cad41c25e980e60c9bd1c62789bbc5ff7c0336e7b808e"), looks := true }, kinds := [], alts := [], laidByText := true, laidKinds := [.sentinel, .sentinel, .sentinel, .sentinel, .sentinel], laidTests := true, laidLooks := .later }
def FnExactQueueFaultCardSaid : Prop := Claim7.holds Tryd.pinned (.plain (OpenSpec.ofChange fnExactQueueFaultSpec)) fnExactQueueFaultCard

/-- THE TIED CARD OF 'laws.FnExactTakeLock'. -/
def fnExactTakeLockCard : Claim7 := { stood := { row := fnExactTakeLockRow, standIns := [], harness := (true, "9fef4f6b4113378a939cad41c25e980e60c9bd1c62789bbc5ff7c0336e7b808e"), looks := true }, kinds := [], alts := [], laidByText := true, laidKinds := [.sentinel, .sentinel, .sentinel, .sentinel, .sentinel, .sentinel], laidTests := true, laidLooks := .later }
def FnExactTakeLockCardSaid : Prop := Claim7.holds Tryd.pinned (.plain (OpenSpec.ofChange fnExactTakeLockSpec)) fnExactTakeLockCard

/-- THE TIED CARD OF 'laws.FnExactPassLock'. -/
def fnExactPassLockCard : Claim7 := { stood := { row := fnExactPassLockRow, standIns := [], harness := (true, "9fef4f6b4113378a939cad41c25e980e60c9bd1c62789bbc5ff7c0336e7b808e"), looks := true }, kinds := [], alts := [], laidByText := true, laidKinds := [.sentinel, .sentinel, .sentinel, .sentinel, .sentinel, .sentinel], laidTests := true, laidLooks := .later }
def FnExactPassLockCardSaid : Prop := Claim7.holds Tryd.pinned (.plain (OpenSpec.ofChange fnExactPassLockSpec)) fnExactPassLockCard

/-- THE TIED CARD OF 'laws.FnExactWaitQueue'. -/
def fnExactWaitQueueCard : Claim7 := { stood := { row := fnExactWaitQueueRow, standIns := [], harness := (true, "9fef4f6b4113378a939cad41c25e980e60c9bd1c62789bbc5ff7c0336e7b808e"), looks := true }, kinds := [], alts := [], laidByText := true, laidKinds := [.sentinel, .sentinel, .sentinel, .sentinel, .sentinel], laidTests := true, laidLooks := .later }
def FnExactWaitQueueCardSaid : Prop := Claim7.holds Tryd.pinned (.plain (OpenSpec.ofChange fnExactWaitQueueSpec)) fnExactWaitQueueCard

/-- THE TIED CARD OF 'laws.FnExactWakeOne'. -/
def fnExactWakeOneCard : Claim7 := { stood := { row := fnExactWakeOneRow, standIns := [], harness := (true, "9fef4f6b4113378a939cad41c25e980e60c9bd1c62789bbc5ff7c0336e7b808e"), looks := true }, kinds := [], alts := [], laidByText := true, laidKinds := [.sentinel, .sentinel, .sentinel, .sentinel, .sentinel, .sentinel], laidTests := true, laidLooks := .later }
def FnExactWakeOneCardSaid : Prop := Claim7.holds Tryd.pinned (.plain (OpenSpec.ofChange fnExactWakeOneSpec)) fnExactWakeOneCard

/-- THE TIED CARD OF 'laws.FnExactWakeAll'. -/
def fnExactWakeAllCard : Claim7 := { stood := { row := fnExactWakeAllRow, standIns := [], harness := (true, "9fef4f6b4113378a939cad41c25e980e60c9bd1c62789bbc5ff7c0336e7b808e"), looks := true }, kinds := [], alts := [], laidByText := true, laidKinds := [.sentinel, .sentinel, .sentinel, .sentinel, .sentinel, .sentinel], laidTests := true, laidLooks := .later }
def FnExactWakeAllCardSaid : Prop := Claim7.holds Tryd.pinned (.plain (OpenSpec.ofChange fnExactWakeAllSpec)) fnExactWakeAllCard

/-- THE SECOND FORM's CARD OF 'laws.FnLocks'. -/
def fnLocksUptoCard : Claim7 := { stood := { row := fnLocksUptoRow, standIns := [], harness := (true, "9fef4f6b4113378a939cad41c25e980e60c9bd1c62789bbc5ff7c0336e7b808e"), looks := true }, kinds := [], alts := [], laidByText := true, laidKinds := [.sentinel, .sentinel, .sentinel, .sentinel, .sentinel, .sentinel], laidTests := true, laidLooks := .later }
def FnLocksUptoCardSaid : Prop := Claim7.holds Tryd.pinned (.plain (OpenSpec.upto fnLocksSpec)) fnLocksUptoCard

/-- THE SECOND FORM's CARD OF 'laws.FnWakes'. -/
def fnWakesUptoCard : Claim7 := { stood := { row := fnWakesUptoRow, standIns := [], harness := (true, "9fef4f6b4113378a939cad41c25e980e60c9bd1c62789bbc5ff7c0336e7b808e"), looks := true }, kinds := [], alts := [], laidByText := true, laidKinds := [.sentinel, .sentinel, .sentinel, .sentinel, .sentinel, .sentinel], laidTests := true, laidLooks := .later }
def FnWakesUptoCardSaid : Prop := Claim7.holds Tryd.pinned (.plain (OpenSpec.upto fnWakesSpec)) fnWakesUptoCard

/-- THE SECOND FORM's CARD OF 'laws.FnExactLockFault'. -/
def fnExactLockFaultUptoCard : Claim7 := { stood := { row := fnExactLockFaultUptoRow, standIns := [], harness := (true, "9fef4f6b4113378a939cad41c25e980e60c9bd1c62789bbc5ff7c0336e7b808e"), looks := true }, kinds := [], alts := [], laidByText := true, laidKinds := [.sentinel, .sentinel, .sentinel, .sentinel, .sentinel, .sentinel], laidTests := true, laidLooks := .later }
def FnExactLockFaultUptoCardSaid : Prop := Claim7.holds Tryd.pinned (.plain (OpenSpec.upto fnExactLockFaultSpec)) fnExactLockFaultUptoCard

/-- THE SECOND FORM's CARD OF 'laws.FnExactQueueFault'. -/
def fnExactQueueFaultUptoCard : Claim7 := { stood := { row := fnExactQueueFaultUptoRow, standIns := [], harness := (true, "9fef4f6b4113378a939cad41c25e980e60c9bd1c62789bbc5ff7c0336e7b808e"), looks := true }, kinds := [], alts := [], laidByText := true, laidKinds := [.sentinel, .sentinel, .sentinel, .sentinel, .sentinel], laidTests := true, laidLooks := .later }
def FnExactQueueFaultUptoCardSaid : Prop := Claim7.holds Tryd.pinned (.plain (OpenSpec.upto fnExactQueueFaultSpec)) fnExactQueueFaultUptoCard

/-- THE SECOND FORM's CARD OF 'laws.FnExactTakeLock'. -/
def fnExactTakeLockUptoCard : Claim7 := { stood := { row := fnExactTakeLockUptoRow, standIns := [], harness := (true, "9fef4f6b4113378a939cad41c25e980e60c9bd1c62789bbc5ff7c0336e7b808e"), looks := true }, kinds := [], alts := [], laidByText := true, laidKinds := [.sentinel, .sentinel, .sentinel, .sentinel, .sentinel, .sentinel], laidTests := true, laidLooks := .later }
def FnExactTakeLockUptoCardSaid : Prop := Claim7.holds Tryd.pinned (.plain (OpenSpec.upto fnExactTakeLockSpec)) fnExactTakeLockUptoCard

/-- THE SECOND FORM's CARD OF 'laws.FnExactPassLock'. -/
def fnExactPassLockUptoCard : Claim7 := { stood := { row := fnExactPassLockUptoRow, standIns := [], harness := (true, "9fef4f6b4113378a939cad41c25e980e60c9bd1c62789bbc5ff7c0336e7b808e"), looks := true }, kinds := [], alts := [], laidByText := true, laidKinds := [.sentinel, .sentinel, .sentinel, .sentinel, .sentinel, .sentinel], laidTests := true, laidLooks := .later }
def FnExactPassLockUptoCardSaid : Prop := Claim7.holds Tryd.pinned (.plain (OpenSpec.upto fnExactPassLockSpec)) fnExactPassLockUptoCard

/-- THE SECOND FORM's CARD OF 'laws.FnExactWaitQueue'. -/
def fnExactWaitQueueUptoCard : Claim7 := { stood := { row := fnExactWaitQueueUptoRow, standIns := [], harness := (true, "9fef4f6b4113378a939cad41c25e980e60c9bd1c62789bbc5ff7c0336e7b808e"), looks := true }, kinds := [], alts := [], laidByText := true, laidKinds := [.sentinel, .sentinel, .sentinel, .sentinel, .sentinel], laidTests := true, laidLooks := .later }
def FnExactWaitQueueUptoCardSaid : Prop := Claim7.holds Tryd.pinned (.plain (OpenSpec.upto fnExactWaitQueueSpec)) fnExactWaitQueueUptoCard

/-- THE SECOND FORM's CARD OF 'laws.FnExactWakeOne'. -/
def fnExactWakeOneUptoCard : Claim7 := { stood := { row := fnExactWakeOneUptoRow, standIns := [], harness := (true, "9fef4f6b4113378a939cad41c25e980e60c9bd1c62789bbc5ff7c0336e7b808e"), looks := true }, kinds := [], alts := [], laidByText := true, laidKinds := [.sentinel, .sentinel, .sentinel, .sentinel, .sentinel, .sentinel], laidTests := true, laidLooks := .later }
def FnExactWakeOneUptoCardSaid : Prop := Claim7.holds Tryd.pinned (.plain (OpenSpec.upto fnExactWakeOneSpec)) fnExactWakeOneUptoCard

/-- THE SECOND FORM's CARD OF 'laws.FnExactWakeAll'. -/
def fnExactWakeAllUptoCard : Claim7 := { stood := { row := fnExactWakeAllUptoRow, standIns := [], harness := (true, "9fef4f6b4113378a939cad41c25e980e60c9bd1c62789bbc5ff7c0336e7b808e"), looks := true }, kinds := [], alts := [], laidByText := true, laidKinds := [.sentinel, .sentinel, .sentinel, .sentinel, .sentinel, .sentinel], laidTests := true, laidLooks := .later }
def FnExactWakeAllUptoCardSaid : Prop := Claim7.holds Tryd.pinned (.plain (OpenSpec.upto fnExactWakeAllSpec)) fnExactWakeAllUptoCard
end Rows
end Go.Proofs.YtfgllhomnmacfaaDoor
