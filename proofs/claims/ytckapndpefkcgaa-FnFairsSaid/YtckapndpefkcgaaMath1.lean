/-
  Chapter 1's plain mathematics: what a list of owners is worth (its fault, its counts), in Lean's own lists. No program is named here.
-/
import Derived.Test.YtckapndpefkcgaaBase
set_option maxHeartbeats 1000000
namespace Go.Proofs.Ytckapndpefkcgaa
open Go.RowKit

def cnt : List Int → Int → Nat
  | [], _ => 0
  | x :: r, e => (if x = e then 1 else 0) + cnt r e
def bad (x : Int) : Bool := decide (x ≠ -1 ∧ ¬ (0 ≤ x ∧ x < 4))
def inEnv (x : Int) : Bool := decide (0 ≤ x ∧ x < 4)
def vf (xs : List Int) : Int :=
  if xs.length < 1 ∨ 12 < xs.length then 2 else if xs.any bad then 3 else if 6 < cnt xs 0 ∨ 6 < cnt xs 1 ∨ 6 < cnt xs 2 ∨ 6 < cnt xs 3 then 8 else 0
def ef (xs es : List Int) : Int := if vf xs ≠ 0 then vf xs else if es.any (fun e => !inEnv e) then 3 else 0
def sf (xs : List Int) (slot : Int) (es : List Int) : Int := if ef xs es ≠ 0 then ef xs es else if slot < 0 ∨ (xs.length : Int) ≤ slot then 4 else 0

def inR (lo hi v : Int) : Bool := decide (lo ≤ v ∧ v ≤ hi)
theorem inR_true {lo hi v : Int} (h : lo ≤ v ∧ v ≤ hi) : inR lo hi v = true := decide_eq_true h
theorem inR_false {lo hi v : Int} (h : ¬ (lo ≤ v ∧ v ≤ hi)) : inR lo hi v = false := decide_eq_false h
end Go.Proofs.Ytckapndpefkcgaa
