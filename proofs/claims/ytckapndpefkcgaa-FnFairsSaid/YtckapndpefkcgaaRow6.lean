/-
  Rows of numbers of one's own: a copy by the model, by the program, and one number more. No conditions beyond that the list can be read.
-/
import Derived.Laws.AppendOwnNone
import Derived.Test.YtckapndpefkcgaaOwn4
import Derived.Test.YtckapndpefkcgaaCut6
set_option maxHeartbeats 1000000
namespace Go.Proofs.Ytckapndpefkcgaa
open Go.RowKit
set_option maxRecDepth 100000

theorem or_of6 {t : TypeId} {m : Nat} {w : World} {base n : Nat} {v : Value} {hs : List Int} (h : w.ownsRow base t m v n (vals hs)) : ∃ A c, v = .slice A n c ∧ OR t m w base A n c hs := by
  rcases h.2 with ⟨rfl, rfl⟩ | ⟨g, cap, cur, rfl, _⟩
  · exact ⟨none, 0, rfl, h⟩
  · exact ⟨some ⟨g, 0, none⟩, cap, rfl, h⟩
theorem one_new6 (w : World) (v : Int) : ∀ j u, ([.int .i64 v] : List Value)[j]? = some u → (w.alloc (.cells #[.int .i64 v] 2)).cell? ((⟨w.heap.size, 0, none⟩ : Addr).add j) = some u := by
  intro j u hu
  rw [Go.WideShapes.add_plain]
  rcases j with _ | j
  · injection hu with hu; subst hu; exact cell_of_row _ _ 0 _ _ _ (heap_alloc_new w _)
  · simp at hu
theorem row_more6 {t : TypeId} {w : World} {base n : Nat} {x : Value} {hs : List Int} {v : Int} (h : w.ownsRow base t 1 x (n + 1) (vals hs ++ [.int .i64 v])) : ∃ A c, x = .slice A (n + 1) c ∧ OR t 1 w base A (n + 1) c (hs ++ [v]) := by
  rw [show vals hs ++ [Value.int .i64 v] = vals (hs ++ [v]) by simp [vals]] at h
  exact or_of6 h
end Go.Proofs.Ytckapndpefkcgaa
