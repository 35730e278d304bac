/-
  The model's draw of a list of owners (l1Draw): it returns a list of at most 13 small numbers in memory of its own, and writes nothing but its source. For codes of at most 2^20 bytes.
-/
import Derived.Test.YtachpoehejdpjaaDoorPick
namespace Go.Proofs.YtachpoehejdpjaaDoor
open Go.RowKit

/-- a drawn list: n numbers from -2 to 4, in memory of its own; the source is at most 20 places on -/
def Drawn (g : Nat) (A : Option Addr) (k c a : Nat) (w : World) (e : Ending) (w' : World) : Prop :=
  ∃ B n c' xs a', e = .returned (.slice B n c') ∧ xs.length = n ∧ n ≤ 13 ∧ (B = none → c' = 0) ∧ Mine w' w.heap.size w'.heap.size 2 B n (fun j => .int .i64 (gi xs j)) ∧ (∀ j, -2 ≤ gi xs j ∧ gi xs j ≤ 4) ∧
    a' ≤ a + 20 ∧ Src w' g A k c a' ∧ Only g (g + 1) w w'

def picks8 : List Int := [-1, -1, 0, 0, 1, 1, 2, 3]
theorem picks8_ok (r : Nat) (h : r < picks8.length) : -2 ≤ gi picks8 r ∧ gi picks8 r ≤ 4 := by
  have h : r < 8 := h
  rcases (show r = 0 ∨ r = 1 ∨ r = 2 ∨ r = 3 ∨ r = 4 ∨ r = 5 ∨ r = 6 ∨ r = 7 by omega) with rfl | rfl | rfl | rfl | rfl | rfl | rfl | rfl <;> decide
theorem gi_snoc (xs : List Int) (v : Int) (j : Nat) : gi (xs ++ [v]) j = if j < xs.length then gi xs j else if j = xs.length then v else 0 := by
  unfold gi
  simp only [List.getD_eq_getElem?_getD]
  by_cases h : j < xs.length
  · rw [if_pos h, List.getElem?_append_left h]
  · rw [if_neg h, List.getElem?_append_right (by omega)]
    by_cases e : j = xs.length
    · subst e; simp
    · rw [if_neg e, List.getElem?_eq_none (by simp; omega)]; rfl
theorem vals_snoc (xs : List Int) (v : Int) : vals xs ++ [.int .i64 v] = vals (xs ++ [v]) := by simp [vals]
theorem picks8_at (j : Nat) (h : j < 8) : (#[.int .i64 (-1), .int .i64 (-1), .int .i64 0, .int .i64 0, .int .i64 1, .int .i64 1, .int .i64 2, .int .i64 3] : Array Value)[j]? = some (.int .i64 (gi picks8 j)) := by
  rcases (show j = 0 ∨ j = 1 ∨ j = 2 ∨ j = 3 ∨ j = 4 ∨ j = 5 ∨ j = 6 ∨ j = 7 by omega) with rfl | rfl | rfl | rfl | rfl | rfl | rfl | rfl <;> rfl

theorem hm2 {w wr w2 : World} {g n : Nat} {t : TypeId} {B : Option Addr} {f : Nat → Value} (h : Mine wr w.heap.size wr.heap.size t B n f) (ho : Only g (g + 1) wr w2) (hg : g < w.heap.size) : Mine w2 w.heap.size wr.heap.size t B n f :=
  h.only ho (Nat.le_refl _) (.inr (by omega))

end Go.Proofs.YtachpoehejdpjaaDoor
