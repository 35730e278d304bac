/-
  An answer's box: a code, or a kernel of the call's own written into it. No program is named here.
  Ahead of it:
  A block of n cells that a region writes at its end. No program is named here.
-/
import Derived.Test.YtkhphkfbjbhgaaaGreatKer3
import Derived.Test.YtkhphkfbjbhgaaaGreatKer2
namespace Go.Proofs.YtkhphkfbjbhgaaaGreat
open Go.RowKit

set_option maxHeartbeats 1000000 in
/-- all below s is as in W0, and s is a block of n cells -/
inductive BoxN (n s : Nat) (t : TypeId) (W0 W : World) : Prop where
  | intro (h : Below s W0 W) (cs : Array Value) (e : cs.size = n) (k : W.heap[s]? = some (.cells cs t (0, 0))) : BoxN n s t W0 W
section
variable {n s : Nat} {t : TypeId} {W0 W W' : World}
theorem BoxN.fst (h : BoxN n s t W0 W) : Below s W0 W := by cases h; assumption
set_option maxHeartbeats 1000000 in
theorem BoxN.lt (h : BoxN n s t W0 W) : s < W.heap.size := by cases h with | intro h cs e k => exact (Array.getElem?_eq_some_iff.1 k).1
set_option maxHeartbeats 1000000 in
theorem BoxN.cell (h : BoxN n s t W0 W) (j : Nat) (hj : j < n) : W.cell? ⟨s, j, none⟩ = some (cval W ⟨s, j, none⟩) := by
  cases h with
  | intro h cs e k => exact cval_eq (v := cs[j]'(by omega)) (by rw [cell_of_row W s j _ _ _ k]; simp)
set_option maxHeartbeats 1000000 in
theorem BoxN.frozen (h : BoxN n s t W0 W) (j : Nat) : W.frozen? ⟨s, j, none⟩ = false := by
  cases h with | intro h cs e k => exact frozen_of_row W s j _ _ k
set_option maxHeartbeats 1000000 in
theorem BoxN.below (h : BoxN n s t W0 W) (hb : Below W.heap.size W W') : BoxN n s t W0 W' := by
  have hl := h.lt
  cases h with
  | intro h cs e k => exact ⟨h.trans (hb.mono (by omega)), cs, e, (hb.block s hl).trans k⟩
set_option maxHeartbeats 1000000 in
theorem BoxN.drew (h : BoxN n s t W0 W) : BoxN n s t W0 W.drew := by
  cases h with | intro h cs e k => exact ⟨h.drew, cs, e, k⟩
set_option maxHeartbeats 1000000 in
theorem BoxN.alloc (h : BoxN n s t W0 W) (o : Obj) : BoxN n s t W0 (W.alloc o) := h.below (below_new W o)
set_option maxHeartbeats 1000000 in
theorem BoxN.set (h : BoxN n s t W0 W) (j : Nat) (v : Value) : BoxN n s t W0 (W.setCell ⟨s, j, none⟩ v) := by
  cases h with
  | intro h cs e k => exact ⟨h.setCell (p := ⟨s, j, none⟩) (Nat.le_refl _) v, cs.setIfInBounds j v, by simp [e], heap_setCell_same W s j _ t v k⟩
set_option maxHeartbeats 1000000 in
theorem BoxN.far (h : BoxN n s t W0 W) (g j : Nat) (v : Value) (hg : s < g) : BoxN n s t W0 (W.setCell ⟨g, j, none⟩ v) := by
  cases h with
  | intro h cs e k => exact ⟨h.setCell (p := ⟨g, j, none⟩) (Nat.le_of_lt hg) v, cs, e, (Below.heap_setCell W ⟨g, j, none⟩ _ s (by simp; omega)).trans k⟩
set_option maxHeartbeats 1000000 in
theorem BoxN.new (w : World) (cs : Array Value) (t : TypeId) : BoxN cs.size w.heap.size t w (w.alloc (.cells cs t)) := ⟨below_new w _, cs, rfl, heap_alloc_new w _⟩
set_option maxHeartbeats 1000000 in
theorem BoxN.of (h : BoxN n s t W0 W) : ∃ cs : Array Value, cs.size = n ∧ W.heap[s]? = some (.cells cs t (0, 0)) := by cases h; exact ⟨_, by assumption, by assumption⟩
end
set_option maxHeartbeats 1000000 in
theorem arr5 {α : Type} {cs : Array α} (h : cs.size = 5) : ∃ c0 c1 c2 c3 c4, cs = #[c0, c1, c2, c3, c4] := by
  obtain ⟨l⟩ := cs
  match l, h with
  | [c0, c1, c2, c3, c4], _ => exact ⟨c0, c1, c2, c3, c4, rfl⟩
set_option maxHeartbeats 1000000 in
theorem arr7 {α : Type} {cs : Array α} (h : cs.size = 7) : ∃ c0 c1 c2 c3 c4 c5 c6, cs = #[c0, c1, c2, c3, c4, c5, c6] := by
  obtain ⟨l⟩ := cs
  match l, h with
  | [c0, c1, c2, c3, c4, c5, c6], _ => exact ⟨c0, c1, c2, c3, c4, c5, c6, rfl⟩

end Go.Proofs.YtkhphkfbjbhgaaaGreat

namespace Go.Proofs.YtkhphkfbjbhgaaaGreat
open Go.RowKit
set_option maxRecDepth 100000

set_option maxHeartbeats 1000000 in
theorem Kept.set7 {gs : List Nat} {w w' : World} {s : Nat} (h : Kept gs w w') (hs : s ∈ gs) (v0 v1 v2 v3 v4 v5 v6 : Value) : Kept gs w (((((((w'.setCell ⟨s, 0, none⟩ v0).setCell ⟨s, 1, none⟩ v1).setCell ⟨s, 2, none⟩ v2).setCell ⟨s, 3, none⟩ v3).setCell ⟨s, 4, none⟩ v4).setCell ⟨s, 5, none⟩ v5).setCell ⟨s, 6, none⟩ v6) :=
  (((((((h.setCell (p := ⟨s, 0, none⟩) hs (v0)).setCell (p := ⟨s, 1, none⟩) hs (v1)).setCell (p := ⟨s, 2, none⟩) hs (v2)).setCell (p := ⟨s, 3, none⟩) hs (v3)).setCell (p := ⟨s, 4, none⟩) hs (v4)).setCell (p := ⟨s, 5, none⟩) hs (v5)).setCell (p := ⟨s, 6, none⟩) hs (v6))
set_option maxHeartbeats 1000000 in
/-- a kernel of the call's own, written into the answer's box -/
theorem kans_box {w W : World} {K : Ker} {p : Kp} (hx : BoxN 7 w.heap.size 72 w W) (ho : KOwn W p K) (h1 : w.heap.size < p.g1 ∧ p.g1 < W.heap.size) (h2 : w.heap.size < p.g2 ∧ p.g2 < W.heap.size) (h3 : w.heap.size < p.g3 ∧ p.g3 < W.heap.size) :
    let W7 := (((((((W.setCell ⟨w.heap.size, 0, none⟩ (.int .i64 0)).setCell ⟨w.heap.size, 1, none⟩ (.slice p.A1 p.n1 p.c1)).setCell ⟨w.heap.size, 2, none⟩ (.slice p.A2 4 p.c2)).setCell ⟨w.heap.size, 3, none⟩ (.slice p.A3 4 p.c3)).setCell ⟨w.heap.size, 4, none⟩ (.int .i64 K.tick)).setCell ⟨w.heap.size, 5, none⟩ (.int .i64 K.run)).setCell ⟨w.heap.size, 6, none⟩ (.slice none 0 0))
    W7.heap[w.heap.size]? = some (.cells #[.int .i64 0, .slice p.A1 p.n1 p.c1, .slice p.A2 4 p.c2, .slice p.A3 4 p.c3, .int .i64 K.tick, .int .i64 K.run, .slice none 0 0] 72 (0, 0)) ∧
    KAns 0 K [] w (.returned (.agg #[.int .i64 0, .slice p.A1 p.n1 p.c1, .slice p.A2 4 p.c2, .slice p.A3 4 p.c3, .int .i64 K.tick, .int .i64 K.run, .slice none 0 0])) W7 := by
  intro W7
  obtain ⟨cs, e, k⟩ := hx.of
  obtain ⟨a0, a1, a2, a3, a4, a5, a6, rfl⟩ := arr7 e
  have kp : Kept [w.heap.size] W W7 := Kept.set7 (Kept.refl _ _) (List.mem_singleton.2 rfl) _ _ _ _ _ _ _
  have hsz : W7.heap.size = W.heap.size := by simp [W7]
  refine ⟨blk7_set k _ _ _ _ _ _ _, kans_ker (ho.kept kp (by simp; omega) (by simp; omega) (by simp; omega)) ⟨by omega, by omega⟩ ⟨by omega, by omega⟩ ⟨by omega, by omega⟩ (below7 hx.fst (Nat.le_refl _) _ _ _ _ _ _ _)⟩
set_option maxHeartbeats 1000000 in
/-- a code alone, written into the answer's box -/
theorem kans_code_box {w W : World} (q : Int) (hx : BoxN 7 w.heap.size 72 w W) :
    let W7 := (((((((W.setCell ⟨w.heap.size, 0, none⟩ (.int .i64 q)).setCell ⟨w.heap.size, 1, none⟩ (.slice none 0 0)).setCell ⟨w.heap.size, 2, none⟩ (.slice none 0 0)).setCell ⟨w.heap.size, 3, none⟩ (.slice none 0 0)).setCell ⟨w.heap.size, 4, none⟩ (.int .i64 0)).setCell ⟨w.heap.size, 5, none⟩ (.int .i64 0)).setCell ⟨w.heap.size, 6, none⟩ (.slice none 0 0))
    W7.heap[w.heap.size]? = some (.cells #[.int .i64 q, .slice none 0 0, .slice none 0 0, .slice none 0 0, .int .i64 0, .int .i64 0, .slice none 0 0] 72 (0, 0)) ∧
    KAns q zeroKer [] w (.returned (.agg #[.int .i64 q, .slice none 0 0, .slice none 0 0, .slice none 0 0, .int .i64 0, .int .i64 0, .slice none 0 0])) W7 := by
  intro W7
  obtain ⟨cs, e, k⟩ := hx.of
  obtain ⟨a0, a1, a2, a3, a4, a5, a6, rfl⟩ := arr7 e
  have hsz : W7.heap.size = W.heap.size := by simp [W7]
  exact ⟨blk7_set k _ _ _ _ _ _ _, kans_code (below7 hx.fst (Nat.le_refl _) _ _ _ _ _ _ _) (by have := hx.lt; omega)⟩


end Go.Proofs.YtkhphkfbjbhgaaaGreat
