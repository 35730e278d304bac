/-
  Chapter 2's plain mathematics: an account's fault and what each step makes of it, on its four numbers. No program is named here.
-/
import Derived.Test.YtkhphkfbjbhgaaaGreatMath1
namespace Go.Proofs.YtkhphkfbjbhgaaaGreat
open Go.RowKit

/-- AccountFault's answer -/
def af (u x g d : Int) : Int := if (0 ≤ u ∧ u ≤ 1000000) ∧ (0 ≤ x ∧ x ≤ 1000000) ∧ (0 ≤ g ∧ g ≤ 1000000) ∧ (0 ≤ d ∧ d ≤ 3) then 0 else 3
set_option maxHeartbeats 1000000 in
theorem af_zero {u x g d : Int} (h : af u x g d = 0) : (0 ≤ u ∧ u ≤ 1000000) ∧ (0 ≤ x ∧ x ≤ 1000000) ∧ (0 ≤ g ∧ g ≤ 1000000) ∧ (0 ≤ d ∧ d ≤ 3) := by
  unfold af at h
  split at h
  · assumption
  · omega
set_option maxHeartbeats 1000000 in
theorem af_ok {u x g d : Int} (h : (0 ≤ u ∧ u ≤ 1000000) ∧ (0 ≤ x ∧ x ≤ 1000000) ∧ (0 ≤ g ∧ g ≤ 1000000) ∧ (0 ≤ d ∧ d ≤ 3)) : af u x g d = 0 := by unfold af; rw [if_pos h]
set_option maxHeartbeats 1000000 in
theorem af_bad {u x g d : Int} (h : ¬ ((0 ≤ u ∧ u ≤ 1000000) ∧ (0 ≤ x ∧ x ≤ 1000000) ∧ (0 ≤ g ∧ g ≤ 1000000) ∧ (0 ≤ d ∧ d ≤ 3))) : af u x g d = 3 := by unfold af; rw [if_neg h]

/-- an answer: a code, an account's four numbers, dropped -/
abbrev R2 := Int × Int × Int × Int × Int × Bool
def use2 (u x g d : Int) (late : Bool) : R2 :=
  if af u x g d ≠ 0 then (af u x g d, 0, 0, 0, 0, false)
  else if late = true then (if 1000000 ≤ x then (8, 0, 0, 0, 0, false) else (0, u, x + 1, g, d, false))
  else (if 1000000 ≤ u then (8, 0, 0, 0, 0, false) else (0, u + 1, x, g, d, false))
def give2 (u x g d : Int) : R2 :=
  if af u x g d ≠ 0 then (af u x g d, 0, 0, 0, 0, false) else if 1000000 ≤ g then (8, 0, 0, 0, 0, false) else (0, u, x, g + 1, d, false)
def pun2 (u x g d : Int) : R2 :=
  if af u x g d ≠ 0 then (af u x g d, 0, 0, 0, 0, false) else if 3 ≤ d then (0, u, x, g, d, true) else (0, u, x, g, d + 1, false)
def skip2 (u x g d : Int) : R2 :=
  if af u x g d ≠ 0 then (af u x g d, 0, 0, 0, 0, false) else if d = 0 then (4, 0, 0, 0, 0, false) else (0, u, x, g, d - 1, false)
/-- an answer as a value -/
def rv2 (r : R2) : Value := .agg #[.int .i64 r.1, .int .i64 r.2.1, .int .i64 r.2.2.1, .int .i64 r.2.2.2.1, .int .i64 r.2.2.2.2.1, .bool r.2.2.2.2.2]
set_option maxHeartbeats 1000000 in
theorem rv_eq (q u x g d : Int) (b : Bool) : rv2 (q, u, x, g, d, b) = .agg #[.int .i64 q, .int .i64 u, .int .i64 x, .int .i64 g, .int .i64 d, .bool b] := rfl
set_option maxHeartbeats 1000000 in
theorem six (r : R2) : ∃ q u x g d b, r = (q, u, x, g, d, b) := ⟨_, _, _, _, _, _, rfl⟩

set_option maxHeartbeats 1000000 in
theorem blk6_set {w : World} {g : Nat} {a0 a1 a2 a3 a4 a5 : Value} {t : TypeId} (h : w.heap[g]? = some (.cells #[a0, a1, a2, a3, a4, a5] t (0, 0))) (b0 b1 b2 b3 b4 b5 : Value) :
    ((((((w.setCell ⟨g, 0, none⟩ b0).setCell ⟨g, 1, none⟩ b1).setCell ⟨g, 2, none⟩ b2).setCell ⟨g, 3, none⟩ b3).setCell ⟨g, 4, none⟩ b4).setCell ⟨g, 5, none⟩ b5).heap[g]? = some (.cells #[b0, b1, b2, b3, b4, b5] t (0, 0)) :=
  heap_setCell_same _ g 5 _ t b5 (heap_setCell_same _ g 4 _ t b4 (heap_setCell_same _ g 3 _ t b3 (heap_setCell_same _ g 2 _ t b2 (heap_setCell_same _ g 1 _ t b1 (heap_setCell_same w g 0 _ t b0 h)))))
set_option maxHeartbeats 1000000 in
theorem below6 {B g : Nat} {a w : World} (h : Below B a w) (hg : B ≤ g) (b0 b1 b2 b3 b4 b5 : Value) :
    Below B a ((((((w.setCell ⟨g, 0, none⟩ b0).setCell ⟨g, 1, none⟩ b1).setCell ⟨g, 2, none⟩ b2).setCell ⟨g, 3, none⟩ b3).setCell ⟨g, 4, none⟩ b4).setCell ⟨g, 5, none⟩ b5) :=
  (((((h.setCell (p := ⟨g, 0, none⟩) hg b0).setCell (p := ⟨g, 1, none⟩) hg b1).setCell (p := ⟨g, 2, none⟩) hg b2).setCell (p := ⟨g, 3, none⟩) hg b3).setCell (p := ⟨g, 4, none⟩) hg b4).setCell (p := ⟨g, 5, none⟩) hg b5

set_option maxHeartbeats 1000000 in
theorem af_two (u x g d : Int) : af u x g d = 0 ∨ af u x g d = 3 := by unfold af; split <;> simp
end Go.Proofs.YtkhphkfbjbhgaaaGreat
