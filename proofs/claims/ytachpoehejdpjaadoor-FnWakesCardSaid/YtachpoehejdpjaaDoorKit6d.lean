/-
  How long the answer's lists of waking all are. No conditions.
-/
import Derived.Test.YtachpoehejdpjaaDoorKit6c
import Derived.Test.YtachpoehejdpjaaDoorMath6b
namespace Go.Proofs.YtachpoehejdpjaaDoor
open Go.RowKit

theorem all6_len (ys : List Int) (o : Int) (xs : List Int) : (all6 ys o xs).2.2.2.2.1.length ≤ 1999999 ∧ (all6 ys o xs).2.2.2.2.2.length ≤ 1999999 := by
  unfold all6 wa6
  by_cases h : wf6 ys o xs ≠ 0
  · rw [if_pos h]; exact ⟨Nat.zero_le _, Nat.zero_le _⟩
  · rw [if_neg h]
    have h2 := go6_few ys false (-1) o xs (wf6_zero (by simpa using h)).2
    exact ⟨by omega, by rw [h2.2]; simp⟩

end Go.Proofs.YtachpoehejdpjaaDoor
