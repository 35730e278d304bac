/-
  The iterator of those that are ready: what comes, in which order. No conditions beyond that the map can be read.
-/
import Derived.RangeFuncNested
import Derived.RangeFuncBound
import Derived.RangeFuncCalls
import Derived.RangeFuncLeaves
import Derived.RangeFuncBox
import Derived.Shelf.Abstract
import Derived.Shelf.RegionOpen
import Derived.WalkKit
import Derived.OwnWalkIn
import Derived.TacticsInMore
import Derived.LoopNIn
import Derived.LoopIn
import Derived.Maps.AppendAt
import Derived.Test.YtachpoehejdpjaaChecked
import Derived.Test.YtachpoehejdpjaaMap5
namespace Go.Proofs.Ytachpoehejdpjaa
open Go.RowKit Go.Shelf
set_option maxRecDepth 100000
attribute [local go_sem] Oper.semAt_some

/-- one that is ready: id, tickets, pass -/
abbrev R3 := Int × Int × Int
def rv (x : R3) : Value := .agg #[.int .i64 x.1, .int .i64 x.2.1, .int .i64 x.2.2]
/-- those at the numbers below k -/
def upTo (M : Int → Option R3) (k : Nat) : List R3 := (List.range k).filterMap fun (j : Nat) => M (j : Int)
theorem upTo_some {M : Int → Option R3} {k : Nat} {x : R3} (h : M (k : Int) = some x) : upTo M (k + 1) = upTo M k ++ [x] := by
  unfold upTo; rw [List.range_succ, List.filterMap_append]; simp [h]
theorem upTo_none {M : Int → Option R3} {k : Nat} (h : M (k : Int) = none) : upTo M (k + 1) = upTo M k := by
  unfold upTo; rw [List.range_succ, List.filterMap_append]; simp [h]
theorem upTo_pre (M : Int → Option R3) (k : Nat) : ∀ d, upTo M k <+: upTo M (k + d) := by
  intro d
  induction d with
  | zero => exact List.prefix_refl _
  | succ d ih =>
    refine ih.trans ?_
    cases h : M ((k + d : Nat) : Int) with
    | none => rw [show k + (d + 1) = k + d + 1 by omega, upTo_none h]; exact List.prefix_refl _
    | some x => rw [show k + (d + 1) = k + d + 1 by omega, upTo_some h]; exact List.prefix_append _ _
theorem upTo_lt {M : Int → Option R3} {k n : Nat} {x : R3} (h : M (k : Int) = some x) (hk : k < n) : (upTo M k).length < (upTo M n).length := by
  have h1 := (upTo_pre M (k + 1) (n - (k + 1))).length_le
  rw [show k + 1 + (n - (k + 1)) = n by omega, upTo_some h, List.length_append, List.length_singleton] at h1
  omega
/-- block r is a map of those that are ready -/
def RM (w : World) (r : Nat) (M : Int → Option R3) : Prop := IM w r (fun k => (M k).map rv)
/-- what a round keeps -/
def KpI (n₀ bx : Nat) (W W' : World) : Prop := Below n₀ W W' ∧ W'.heap[bx]? = W.heap[bx]?
theorem KpI.trans {n₀ bx : Nat} {A B C : World} (h : KpI n₀ bx A B) (k : KpI n₀ bx B C) : KpI n₀ bx A C := ⟨h.1.trans k.1, k.2.trans h.2⟩

end Go.Proofs.Ytachpoehejdpjaa
