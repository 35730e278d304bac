/-
  Heaps as lists of numbers, two for each entry: what is less, what has a fault, how one goes up and how one goes down. No program is named here.
-/
import Derived.Test.YtckapndpefkcgaaBase3
set_option maxHeartbeats 1000000
namespace Go.Proofs.Ytckapndpefkcgaa
open Go.RowKit

def lt4 (p d p' d' : Int) : Bool := decide (p < p') || (decide (p = p') && decide (d < d'))
def less4 (hs : List Int) (i j : Nat) : Bool := lt4 (gi hs (i * 2)) (gi hs (i * 2 + 1)) (gi hs (j * 2)) (gi hs (j * 2 + 1))
def okE (p d : Int) : Bool := (decide (0 ≤ p) && decide (p ≤ 100000000)) && (decide (0 ≤ d) && decide (d ≤ 99))
def anyTo (n : Nat) (p : Nat → Bool) : Bool := (List.range n).any p
theorem anyTo_false {n : Nat} {p : Nat → Bool} : anyTo n p = false ↔ ∀ i, i < n → p i = false := by
  unfold anyTo; simp [List.any_eq_false]
theorem anyTo_true {n i : Nat} {p : Nat → Bool} (hi : i < n) (h : p i = true) : anyTo n p = true := by
  unfold anyTo; simp only [List.any_eq_true]; exact ⟨i, List.mem_range.2 hi, h⟩
theorem anyTo_succ (n : Nat) (p : Nat → Bool) : anyTo (n + 1) p = (anyTo n p || p n) := by
  unfold anyTo; simp [List.range_succ]
def badE (hs : List Int) (i : Nat) : Bool := !okE (gi hs (i * 2)) (gi hs (i * 2 + 1))
def hasE (hs : List Int) (n : Nat) (id : Int) : Bool := anyTo n (fun j => decide (gi hs (j * 2 + 1) = id))
def dupE (hs : List Int) (i : Nat) : Bool := hasE hs i (gi hs (i * 2 + 1))
def upE (hs : List Int) (i : Nat) : Bool := less4 hs (i + 1) (i / 2)
def hf (hs : List Int) (n : Nat) : Int := if 12 < n then 2 else if anyTo n (badE hs) then 3 else if anyTo n (dupE hs) then 6 else if anyTo (n - 1) (upE hs) then 1 else 0

termination_by at_
decreasing_by omega
def lfa (hs : List Int) (n at_ : Nat) : Nat := if 2 * at_ + 1 < n ∧ less4 hs (2 * at_ + 1) at_ = true then 2 * at_ + 1 else at_
def lf4 (hs : List Int) (n at_ : Nat) : Nat := if 2 * at_ + 2 < n ∧ less4 hs (2 * at_ + 2) (lfa hs n at_) = true then 2 * at_ + 2 else lfa hs n at_
theorem lf4_cases (hs : List Int) (n at_ : Nat) : lf4 hs n at_ = at_ ∨ (at_ < lf4 hs n at_ ∧ lf4 hs n at_ < n) := by
  unfold lf4 lfa
  repeat' split
  all_goals omega
termination_by n - at_
decreasing_by have := lf4_cases hs n at_; omega
end Go.Proofs.Ytckapndpefkcgaa
