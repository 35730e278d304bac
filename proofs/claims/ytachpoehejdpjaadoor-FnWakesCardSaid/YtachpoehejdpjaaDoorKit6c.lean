/-
  How long the answers' lists of waking are. No conditions.
-/
import Derived.Test.YtachpoehejdpjaaDoorKit6b
namespace Go.Proofs.YtachpoehejdpjaaDoor
open Go.RowKit
set_option maxRecDepth 100000

theorem one6_len (ys : List Int) (o : Int) (xs : List Int) (n k : Nat) (h : n ≤ 1048576) (hl : xs.length = n) (h2 : k ≤ 1048576) (hl2 : ys.length = k) : (one6 ys o xs).2.2.2.2.1.length ≤ 1999999 ∧ (one6 ys o xs).2.2.2.2.2.length ≤ 1999999 := by
  have hz : ∀ q, (z6 q).2.2.2.2.1.length ≤ 1999999 ∧ (z6 q).2.2.2.2.2.length ≤ 1999999 := fun q => ⟨Nat.zero_le _, Nat.zero_le _⟩
  unfold one6 wn6
  split
  · exact hz _
  split
  · exact hz _
  split
  · exact hz _
  · have := (@tk6_len o (gi ys 0) xs).1
    simp only [List.length_drop]
    omega

end Go.Proofs.YtachpoehejdpjaaDoor
