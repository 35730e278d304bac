/-
  The laws' helpers on answers of chapter 5: compare, mark, look again. No conditions beyond that the lists can be read.
-/
import Derived.Test.YtmjcipjennjopaaKit5
namespace Go.Proofs.Ytmjcipjennjopaa
open Go.RowKit
set_option maxRecDepth 100000

theorem cell?_block {W W' : World} {b : Nat} (h : W'.heap[b]? = W.heap[b]?) (j : Nat) : W'.cell? ⟨b, j, none⟩ = W.cell? ⟨b, j, none⟩ := by simp [World.cell?, h]
end Go.Proofs.Ytmjcipjennjopaa
