/-
  A block of n cells that a region writes at its end. No program is named here.
-/
import Derived.Test.YtkhphkfbjbhgaaaGreatKer2
namespace Go.Proofs.YtkhphkfbjbhgaaaGreat
open Go.RowKit

set_option maxHeartbeats 1000000 in
/-- all below s is as in W0, and s is a block of n cells -/
inductive BoxN (n s : Nat) (t : TypeId) (W0 W : World) : Prop where
  | intro (h : Below s W0 W) (cs : Array Value) (e : cs.size = n) (k : W.heap[s]? = some (.cells cs t (0, 0))) : BoxN n s t W0 W
section
variable {n s : Nat} {t : TypeId} {W0 W W' : World}
theorem BoxN.fst (h : BoxN n s t W0 W) : Below s W0 W := by cases h; assumption
set_option maxHeartbeats 1000000 in
theorem BoxN.lt (h : BoxN n s t W0 W) : s < W.heap.size := by cases h with | intro h cs e k => exact (Array.getElem?_eq_some_iff.1 k).1
set_option maxHeartbeats 1000000 in
theorem BoxN.cell (h : BoxN n s t W0 W) (j : Nat) (hj : j < n) : W.cell? ⟨s, j, none⟩ = some (cval W ⟨s, j, none⟩) := by
  cases h with
  | intro h cs e k => exact cval_eq (v := cs[j]'(by omega)) (by rw [cell_of_row W s j _ _ _ k]; simp)
set_option maxHeartbeats 1000000 in
theorem BoxN.frozen (h : BoxN n s t W0 W) (j : Nat) : W.frozen? ⟨s, j, none⟩ = false := by
  cases h with | intro h cs e k => exact frozen_of_row W s j _ _ k
set_option maxHeartbeats 1000000 in
theorem BoxN.below (h : BoxN n s t W0 W) (hb : Below W.heap.size W W') : BoxN n s t W0 W' := by
  have hl := h.lt
  cases h with
  | intro h cs e k => exact ⟨h.trans (hb.mono (by omega)), cs, e, (hb.block s hl).trans k⟩
set_option maxHeartbeats 1000000 in
theorem BoxN.drew (h : BoxN n s t W0 W) : BoxN n s t W0 W.drew := by
  cases h with | intro h cs e k => exact ⟨h.drew, cs, e, k⟩
set_option maxHeartbeats 1000000 in
theorem BoxN.alloc (h : BoxN n s t W0 W) (o : Obj) : BoxN n s t W0 (W.alloc o) := h.below (below_new W o)
set_option maxHeartbeats 1000000 in
theorem BoxN.set (h : BoxN n s t W0 W) (j : Nat) (v : Value) : BoxN n s t W0 (W.setCell ⟨s, j, none⟩ v) := by
  cases h with
  | intro h cs e k => exact ⟨h.setCell (p := ⟨s, j, none⟩) (Nat.le_refl _) v, cs.setIfInBounds j v, by simp [e], heap_setCell_same W s j _ t v k⟩
set_option maxHeartbeats 1000000 in
theorem BoxN.far (h : BoxN n s t W0 W) (g j : Nat) (v : Value) (hg : s < g) : BoxN n s t W0 (W.setCell ⟨g, j, none⟩ v) := by
  cases h with
  | intro h cs e k => exact ⟨h.setCell (p := ⟨g, j, none⟩) (Nat.le_of_lt hg) v, cs, e, (Below.heap_setCell W ⟨g, j, none⟩ _ s (by simp; omega)).trans k⟩
set_option maxHeartbeats 1000000 in
theorem BoxN.new (w : World) (cs : Array Value) (t : TypeId) : BoxN cs.size w.heap.size t w (w.alloc (.cells cs t)) := ⟨below_new w _, cs, rfl, heap_alloc_new w _⟩
set_option maxHeartbeats 1000000 in
theorem BoxN.of (h : BoxN n s t W0 W) : ∃ cs : Array Value, cs.size = n ∧ W.heap[s]? = some (.cells cs t (0, 0)) := by cases h; exact ⟨_, by assumption, by assumption⟩
end
set_option maxHeartbeats 1000000 in
theorem arr5 {α : Type} {cs : Array α} (h : cs.size = 5) : ∃ c0 c1 c2 c3 c4, cs = #[c0, c1, c2, c3, c4] := by
  obtain ⟨l⟩ := cs
  match l, h with
  | [c0, c1, c2, c3, c4], _ => exact ⟨c0, c1, c2, c3, c4, rfl⟩
set_option maxHeartbeats 1000000 in
theorem arr7 {α : Type} {cs : Array α} (h : cs.size = 7) : ∃ c0 c1 c2 c3 c4 c5 c6, cs = #[c0, c1, c2, c3, c4, c5, c6] := by
  obtain ⟨l⟩ := cs
  match l, h with
  | [c0, c1, c2, c3, c4, c5, c6], _ => exact ⟨c0, c1, c2, c3, c4, c5, c6, rfl⟩

end Go.Proofs.YtkhphkfbjbhgaaaGreat
