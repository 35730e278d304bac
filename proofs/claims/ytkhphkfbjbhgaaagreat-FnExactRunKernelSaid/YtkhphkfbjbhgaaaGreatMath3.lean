/-
  Chapter 3's plain mathematics: what is asked of calls, events and kernels, and what each step makes of them. No program is named here.
-/
import Derived.Test.YtkhphkfbjbhgaaaGreatMath2
namespace Go.Proofs.YtkhphkfbjbhgaaaGreat
open Go.RowKit

def cr (e s t : Int) : Int := if inEnv e = true ∧ inEnv t = true ∧ inR 0 11 s = true then 0 else 3
/-- CallFault's answer -/
def cf (k e s t : Int) : Int :=
  if k = 1 ∨ k = 2 then (if s ≠ 0 ∨ t ≠ 0 then 1 else cr e s t)
  else if k = 3 ∨ k = 4 then (if t ≠ 0 then 1 else cr e s t)
  else if k = 5 then cr e s t else 1
/-- EventFault's answer: the event's kind, its act's kind and To, its call -/
def evf (k a b c e s t : Int) : Int :=
  if k = 1 then (if ¬ (1 ≤ a ∧ a ≤ 3) ∨ (a ≠ 3 ∧ b ≠ 0) ∨ c ≠ 0 ∨ e ≠ 0 ∨ s ≠ 0 ∨ t ≠ 0 then 1 else if inEnv b = true then 0 else 3)
  else if k = 2 then (if a ≠ 0 ∨ b ≠ 0 then 1 else cf c e s t) else 1

end Go.Proofs.YtkhphkfbjbhgaaaGreat
