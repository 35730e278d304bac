/-
  An answer's box: a code, or a kernel of the call's own written into it. No program is named here.
-/
import Derived.Test.YtkhphkfbjbhgaaaGreatBox3
import Derived.Test.YtkhphkfbjbhgaaaGreatKer3
namespace Go.Proofs.YtkhphkfbjbhgaaaGreat
open Go.RowKit
set_option maxRecDepth 100000

set_option maxHeartbeats 1000000 in
theorem Kept.set7 {gs : List Nat} {w w' : World} {s : Nat} (h : Kept gs w w') (hs : s ∈ gs) (v0 v1 v2 v3 v4 v5 v6 : Value) : Kept gs w (((((((w'.setCell ⟨s, 0, none⟩ v0).setCell ⟨s, 1, none⟩ v1).setCell ⟨s, 2, none⟩ v2).setCell ⟨s, 3, none⟩ v3).setCell ⟨s, 4, none⟩ v4).setCell ⟨s, 5, none⟩ v5).setCell ⟨s, 6, none⟩ v6) :=
  (((((((h.setCell (p := ⟨s, 0, none⟩) hs (v0)).setCell (p := ⟨s, 1, none⟩) hs (v1)).setCell (p := ⟨s, 2, none⟩) hs (v2)).setCell (p := ⟨s, 3, none⟩) hs (v3)).setCell (p := ⟨s, 4, none⟩) hs (v4)).setCell (p := ⟨s, 5, none⟩) hs (v5)).setCell (p := ⟨s, 6, none⟩) hs (v6))
set_option maxHeartbeats 1000000 in
/-- a kernel of the call's own, written into the answer's box -/
theorem kans_box {w W : World} {K : Ker} {p : Kp} (hx : BoxN 7 w.heap.size 72 w W) (ho : KOwn W p K) (h1 : w.heap.size < p.g1 ∧ p.g1 < W.heap.size) (h2 : w.heap.size < p.g2 ∧ p.g2 < W.heap.size) (h3 : w.heap.size < p.g3 ∧ p.g3 < W.heap.size) :
    let W7 := (((((((W.setCell ⟨w.heap.size, 0, none⟩ (.int .i64 0)).setCell ⟨w.heap.size, 1, none⟩ (.slice p.A1 p.n1 p.c1)).setCell ⟨w.heap.size, 2, none⟩ (.slice p.A2 4 p.c2)).setCell ⟨w.heap.size, 3, none⟩ (.slice p.A3 4 p.c3)).setCell ⟨w.heap.size, 4, none⟩ (.int .i64 K.tick)).setCell ⟨w.heap.size, 5, none⟩ (.int .i64 K.run)).setCell ⟨w.heap.size, 6, none⟩ (.slice none 0 0))
    W7.heap[w.heap.size]? = some (.cells #[.int .i64 0, .slice p.A1 p.n1 p.c1, .slice p.A2 4 p.c2, .slice p.A3 4 p.c3, .int .i64 K.tick, .int .i64 K.run, .slice none 0 0] 72 (0, 0)) ∧
    KAns 0 K [] w (.returned (.agg #[.int .i64 0, .slice p.A1 p.n1 p.c1, .slice p.A2 4 p.c2, .slice p.A3 4 p.c3, .int .i64 K.tick, .int .i64 K.run, .slice none 0 0])) W7 := by
  intro W7
  obtain ⟨cs, e, k⟩ := hx.of
  obtain ⟨a0, a1, a2, a3, a4, a5, a6, rfl⟩ := arr7 e
  have kp : Kept [w.heap.size] W W7 := Kept.set7 (Kept.refl _ _) (List.mem_singleton.2 rfl) _ _ _ _ _ _ _
  have hsz : W7.heap.size = W.heap.size := by simp [W7]
  refine ⟨blk7_set k _ _ _ _ _ _ _, kans_ker (ho.kept kp (by simp; omega) (by simp; omega) (by simp; omega)) ⟨by omega, by omega⟩ ⟨by omega, by omega⟩ ⟨by omega, by omega⟩ (below7 hx.fst (Nat.le_refl _) _ _ _ _ _ _ _)⟩
set_option maxHeartbeats 1000000 in
/-- a code alone, written into the answer's box -/
theorem kans_code_box {w W : World} (q : Int) (hx : BoxN 7 w.heap.size 72 w W) :
    let W7 := (((((((W.setCell ⟨w.heap.size, 0, none⟩ (.int .i64 q)).setCell ⟨w.heap.size, 1, none⟩ (.slice none 0 0)).setCell ⟨w.heap.size, 2, none⟩ (.slice none 0 0)).setCell ⟨w.heap.size, 3, none⟩ (.slice none 0 0)).setCell ⟨w.heap.size, 4, none⟩ (.int .i64 0)).setCell ⟨w.heap.size, 5, none⟩ (.int .i64 0)).setCell ⟨w.heap.size, 6, none⟩ (.slice none 0 0))
    W7.heap[w.heap.size]? = some (.cells #[.int .i64 q, .slice none 0 0, .slice none 0 0, .slice none 0 0, .int .i64 0, .int .i64 0, .slice none 0 0] 72 (0, 0)) ∧
    KAns q zeroKer [] w (.returned (.agg #[.int .i64 q, .slice none 0 0, .slice none 0 0, .slice none 0 0, .int .i64 0, .int .i64 0, .slice none 0 0])) W7 := by
  intro W7
  obtain ⟨cs, e, k⟩ := hx.of
  obtain ⟨a0, a1, a2, a3, a4, a5, a6, rfl⟩ := arr7 e
  have hsz : W7.heap.size = W.heap.size := by simp [W7]
  exact ⟨blk7_set k _ _ _ _ _ _ _, kans_code (below7 hx.fst (Nat.le_refl _) _ _ _ _ _ _ _) (by have := hx.lt; omega)⟩


end Go.Proofs.YtkhphkfbjbhgaaaGreat
