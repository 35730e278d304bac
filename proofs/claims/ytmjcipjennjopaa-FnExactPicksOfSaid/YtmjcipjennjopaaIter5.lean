/-
  The iterator of those that are ready: what comes, in which order. No conditions beyond that the map can be read.
-/
import Derived.RangeFuncNested
import Derived.RangeFuncBound
import Derived.RangeFuncCalls
import Derived.RangeFuncLeaves
import Derived.RangeFuncBox
import Derived.Shelf.Abstract
import Derived.Shelf.RegionOpen
import Derived.WalkKit
import Derived.OwnWalkIn
import Derived.TacticsInMore
import Derived.LoopNIn
import Derived.LoopIn
import Derived.Maps.AppendAt
import Derived.Test.YtmjcipjennjopaaChecked
import Derived.Test.YtmjcipjennjopaaMap5
namespace Go.Proofs.Ytmjcipjennjopaa
open Go.RowKit Go.Shelf
set_option maxRecDepth 100000
attribute [local go_sem] Oper.semAt_some

/-- one that is ready: id, tickets, pass -/
abbrev R3 := Int × Int × Int
def rv (x : R3) : Value := .agg #[.int .i64 x.1, .int .i64 x.2.1, .int .i64 x.2.2]
/-- those at the numbers below k -/
def upTo (M : Int → Option R3) (k : Nat) : List R3 := (List.range k).filterMap fun (j : Nat) => M (j : Int)
theorem upTo_some {M : Int → Option R3} {k : Nat} {x : R3} (h : M (k : Int) = some x) : upTo M (k + 1) = upTo M k ++ [x] := by
  unfold upTo; rw [List.range_succ, List.filterMap_append]; simp [h]
theorem upTo_none {M : Int → Option R3} {k : Nat} (h : M (k : Int) = none) : upTo M (k + 1) = upTo M k := by
  unfold upTo; rw [List.range_succ, List.filterMap_append]; simp [h]
theorem upTo_pre (M : Int → Option R3) (k : Nat) : ∀ d, upTo M k <+: upTo M (k + d) := by
  intro d
  induction d with
  | zero => exact List.prefix_refl _
  | succ d ih =>
    refine ih.trans ?_
    cases h : M ((k + d : Nat) : Int) with
    | none => rw [show k + (d + 1) = k + d + 1 by omega, upTo_none h]; exact List.prefix_refl _
    | some x => rw [show k + (d + 1) = k + d + 1 by omega, upTo_some h]; exact List.prefix_append _ _
theorem upTo_lt {M : Int → Option R3} {k n : Nat} {x : R3} (h : M (k : Int) = some x) (hk : k < n) : (upTo M k).length < (upTo M n).length := by
  have h1 := (upTo_pre M (k + 1) (n - (k + 1))).length_le
  rw [show k + 1 + (n - (k + 1)) = n by omega, upTo_some h, List.length_append, List.length_singleton] at h1
  omega
/-- block r is a map of those that are ready -/
def RM (w : World) (r : Nat) (M : Int → Option R3) : Prop := IM w r (fun k => (M k).map rv)
/-- what a round keeps -/
def KpI (n₀ bx : Nat) (W W' : World) : Prop := Below n₀ W W' ∧ W'.heap[bx]? = W.heap[bx]?
theorem KpI.trans {n₀ bx : Nat} {A B C : World} (h : KpI n₀ bx A B) (k : KpI n₀ bx B C) : KpI n₀ bx A C := ⟨h.1.trans k.1, k.2.trans h.2⟩

set_option maxHeartbeats 1000000 in
theorem rising1_in (n : Nat) (hn : 1 ≤ n) (l bx r n₀ B : Nat) (M : Int → Option R3) (hr : r < n₀) (J Jx : List R3 → World → Prop) (hJ : AbidesFrom B J)
    (hY : ∀ pre x W, J pre W → pre.length < (upTo M 5).length → YieldAt Fence.wide (n - 1) Try.prog l #[rv x] W fun e W' =>
      (e = .returned (.bool true) ∧ J (pre ++ [x]) W' ∧ KpI n₀ bx W W') ∨ (e = .returned (.bool false) ∧ Jx (pre ++ [x]) W'))
    (W : World) (hbx : W.heap[bx]? = some (.cells #[.map (some r)] 67 (0, 0))) (hM : RM W r M) (h0 : J [] W) :
    CallsIn Fence.wide n Try.prog 75 #[.func (.yield l) #[] #[], .pointer (some ⟨bx, 0, none⟩)] W fun e W' => (∃ v, e = .returned v) ∧
      ((∃ ys, ys = upTo M 5 ∧ J ys W') ∨ (∃ pre, pre <+: upTo M 5 ∧ Jx pre W')) := by
  refine callsIn_of_wp Try.func75 rfl trivial ?_ rfl
  simp only [Try.ntmps75, List.size_toArray, List.length_cons, List.length_nil, Nat.reduceAdd, Nat.reduceSub, Array.replicate_succ, Array.replicate_zero, List.push_toArray, List.append_toArray, List.nil_append, List.cons_append]
  gi_wp2
  gi_loopw [3] (fun p wr => ∃ k : Nat, k ≤ 5 ∧ p = .int .i64 (k : Int) ∧ wr.heap[bx]? = some (.cells #[.map (some r)] 67 (0, 0)) ∧ RM wr r M ∧ J (upTo M k) wr)
    (fun p _ => 5 - (intOf p).toNat)
  case atStart =>
    exact ⟨0, by omega, rfl, hbx, hM, h0⟩
  case round =>
    obtain ⟨k, hk, rfl, hb, hm, hj⟩ := hrel
    have cb := cell_of_row wr _ 0 _ _ _ hb
    simp at cb
    by_cases hlt : k < 5
    · cases hx : M (k : Int) with
      | none =>
        obtain ⟨z, hz, -⟩ : ∃ z : Int, (zeroValue 70).run Try.prog wr = .ok (rv (z, z, z)) wr ∧ True := ⟨0, by kernel_rfl, trivial⟩
        have L := IM.miss hm Try.underlying67 Try.underlying2 (k : Int) (by rw [hx]; rfl) hz true
        simp only [rv, if_pos] at L
        have G := Lib.hid (World.grownBy_alloc wr (.cells #[.int .i64 z, .int .i64 z, .int .i64 z] 70) none)
        have hj' := hJ _ _ _ _ hj G.out (fun r e => by cases e)
        clear hz
        gi_wp2
        refine ⟨fun _ h => (by cases h), ?_⟩
        gi_wp2
        go_roundw
        case rel => exact ⟨k + 1, by omega, by go_num, (G.out.block bx (Array.getElem?_eq_some_iff.1 hb).1 (by simp)).trans hb, hm.keepAll (G.out.block r hm.lt (by simp)), by rw [upTo_none hx]; exact hj'⟩
        case measure => simp [intOf]; omega
      | some x =>
        have L := IM.look hm Try.underlying67 Try.underlying2 (k : Int) (rv x) (by rw [hx]; rfl) true
        simp only [rv, if_pos] at L
        have G := Lib.hid (World.grownBy_alloc wr (.cells #[.int .i64 x.1, .int .i64 x.2.1, .int .i64 x.2.2] 70) none)
        have hj' := hJ _ _ _ _ hj G.out (fun r e => by cases e)
        obtain ⟨fn, tmps, assign, body, hy, hR⟩ := hY (upTo M k) x _ hj' (upTo_lt hx hlt)
        simp only [rv] at hy
        have HX := Lib.hid hx
        clear hx
        gi_wp2
        refine hR.mono ?_
        rintro e W3 (⟨rfl, hJ3, hk3⟩ | ⟨rfl, hJx3⟩)
        · gi_wp2
          go_roundw
          case rel => exact ⟨k + 1, by omega, by go_num, (hk3.2.trans (G.out.block bx (Array.getElem?_eq_some_iff.1 hb).1 (by simp))).trans hb, hm.keepAll ((hk3.1.block r hr).trans (G.out.block r hm.lt (by simp))), by rw [upTo_some HX.out]; exact hJ3⟩
          case measure => simp [intOf]; omega
        · gi_wp2
          refine bodyPost_ret (results_none rfl _ _ _) rfl ?_
          refine ⟨⟨_, rfl⟩, .inr ⟨_, ?_, hJx3⟩⟩
          rw [← upTo_some HX.out]
          have := upTo_pre M (k + 1) (5 - (k + 1))
          rw [show k + 1 + (5 - (k + 1)) = 5 by omega] at this
          exact this
    · obtain rfl : k = 5 := by omega
      gi_wp2
      go_end0
      exact ⟨⟨_, rfl⟩, .inl ⟨_, rfl, hj⟩⟩

end Go.Proofs.Ytmjcipjennjopaa
