/-
  The program's functions of chapter 2: what each answers, for every account: the same plain functions as the model's. No conditions.
-/
import Derived.Test.YtaemegkdmbhpnaaMath2
import Derived.Test.YtaemegkdmbhpnaaSpec1
import Derived.Deep.RegionHeld3
import Derived.BigQuiet

namespace Go.Proofs.Ytaemegkdmbhpnaa
open Go.RowKit

theorem fits_any (c m : Int) (w : World) :
    Calls Try.prog 186 #[.agg #[.int .i64 c, .int .i64 m]] w fun e w' => e = .returned (.bool (inR 0 m c)) ∧ Below w.heap.size w w' := by
  have B1 := Lib.hid (below_new w (.cells #[.int .i64 c, .int .i64 m] 226))
  by_cases h1 : 0 ≤ c
  · by_cases h2 : c ≤ m
    · go_enter Try.func186, Try.ntmps186
      go_wp2
      go_ret
      exact ⟨ret_bool (inR_true ⟨h1, h2⟩).symm, B1.out⟩
    · go_enter Try.func186, Try.ntmps186
      go_wp2
      go_ret
      exact ⟨ret_bool (inR_false (by omega)).symm, B1.out⟩
  · go_enter Try.func186, Try.ntmps186
    go_wp2
    go_ret
    exact ⟨ret_bool (inR_false (by omega)).symm, B1.out⟩

theorem ticksOf_any (c : Int) (w : World) :
    Calls Try.prog 191 #[.int .i64 c] w fun e w' => e = .returned (.agg #[.int .i64 c, .int .i64 1000000]) ∧ Below w.heap.size w w' := by
  have B1 : Hid (∀ o, Below w.heap.size w (w.alloc o)) := fun o => below_new w o
  go_enter Try.func191, Try.ntmps191
  go_wp2
  go_returns
  exact ⟨rfl, B1.out _⟩

end Go.Proofs.Ytaemegkdmbhpnaa

namespace Go.Proofs.Ytaemegkdmbhpnaa
open Go.RowKit

theorem frozen_at {B : Nat} {w W : World} (h : Below B w W) {g : Nat} {cs : Array Value} {t : TypeId} (k : w.heap[g]? = some (.cells cs t (0, 0))) (hg : g < B) (i : Nat) : W.frozen? ⟨g, i, none⟩ = false :=
  frozen_of_row W g i _ t ((h.block g hg).trans k)

theorem blk8_set {w : World} {g : Nat} {a0 a1 a2 a3 a4 a5 a6 a7 : Value} {t : TypeId} (h : w.heap[g]? = some (.cells #[a0, a1, a2, a3, a4, a5, a6, a7] t (0, 0))) (b0 b1 b2 b3 b4 b5 b6 b7 : Value) :
    ((((((((w.setCell ⟨g, 0, none⟩ b0).setCell ⟨g, 1, none⟩ b1).setCell ⟨g, 2, none⟩ b2).setCell ⟨g, 3, none⟩ b3).setCell ⟨g, 4, none⟩ b4).setCell ⟨g, 5, none⟩ b5).setCell ⟨g, 6, none⟩ b6).setCell ⟨g, 7, none⟩ b7).heap[g]? = some (.cells #[b0, b1, b2, b3, b4, b5, b6, b7] t (0, 0)) := by
  have h0 : (w.setCell ⟨g, 0, none⟩ b0).heap[g]? = some (.cells #[b0, a1, a2, a3, a4, a5, a6, a7] t (0, 0)) := heap_setCell_same w g 0 _ t b0 h
  have h1 : ((w.setCell ⟨g, 0, none⟩ b0).setCell ⟨g, 1, none⟩ b1).heap[g]? = some (.cells #[b0, b1, a2, a3, a4, a5, a6, a7] t (0, 0)) := heap_setCell_same (w.setCell ⟨g, 0, none⟩ b0) g 1 _ t b1 h0
  have h2 : (((w.setCell ⟨g, 0, none⟩ b0).setCell ⟨g, 1, none⟩ b1).setCell ⟨g, 2, none⟩ b2).heap[g]? = some (.cells #[b0, b1, b2, a3, a4, a5, a6, a7] t (0, 0)) := heap_setCell_same ((w.setCell ⟨g, 0, none⟩ b0).setCell ⟨g, 1, none⟩ b1) g 2 _ t b2 h1
  have h3 : ((((w.setCell ⟨g, 0, none⟩ b0).setCell ⟨g, 1, none⟩ b1).setCell ⟨g, 2, none⟩ b2).setCell ⟨g, 3, none⟩ b3).heap[g]? = some (.cells #[b0, b1, b2, b3, a4, a5, a6, a7] t (0, 0)) := heap_setCell_same (((w.setCell ⟨g, 0, none⟩ b0).setCell ⟨g, 1, none⟩ b1).setCell ⟨g, 2, none⟩ b2) g 3 _ t b3 h2
  have h4 : (((((w.setCell ⟨g, 0, none⟩ b0).setCell ⟨g, 1, none⟩ b1).setCell ⟨g, 2, none⟩ b2).setCell ⟨g, 3, none⟩ b3).setCell ⟨g, 4, none⟩ b4).heap[g]? = some (.cells #[b0, b1, b2, b3, b4, a5, a6, a7] t (0, 0)) := heap_setCell_same ((((w.setCell ⟨g, 0, none⟩ b0).setCell ⟨g, 1, none⟩ b1).setCell ⟨g, 2, none⟩ b2).setCell ⟨g, 3, none⟩ b3) g 4 _ t b4 h3
  have h5 : ((((((w.setCell ⟨g, 0, none⟩ b0).setCell ⟨g, 1, none⟩ b1).setCell ⟨g, 2, none⟩ b2).setCell ⟨g, 3, none⟩ b3).setCell ⟨g, 4, none⟩ b4).setCell ⟨g, 5, none⟩ b5).heap[g]? = some (.cells #[b0, b1, b2, b3, b4, b5, a6, a7] t (0, 0)) := heap_setCell_same (((((w.setCell ⟨g, 0, none⟩ b0).setCell ⟨g, 1, none⟩ b1).setCell ⟨g, 2, none⟩ b2).setCell ⟨g, 3, none⟩ b3).setCell ⟨g, 4, none⟩ b4) g 5 _ t b5 h4
  have h6 : (((((((w.setCell ⟨g, 0, none⟩ b0).setCell ⟨g, 1, none⟩ b1).setCell ⟨g, 2, none⟩ b2).setCell ⟨g, 3, none⟩ b3).setCell ⟨g, 4, none⟩ b4).setCell ⟨g, 5, none⟩ b5).setCell ⟨g, 6, none⟩ b6).heap[g]? = some (.cells #[b0, b1, b2, b3, b4, b5, b6, a7] t (0, 0)) := heap_setCell_same ((((((w.setCell ⟨g, 0, none⟩ b0).setCell ⟨g, 1, none⟩ b1).setCell ⟨g, 2, none⟩ b2).setCell ⟨g, 3, none⟩ b3).setCell ⟨g, 4, none⟩ b4).setCell ⟨g, 5, none⟩ b5) g 6 _ t b6 h5
  have h7 : ((((((((w.setCell ⟨g, 0, none⟩ b0).setCell ⟨g, 1, none⟩ b1).setCell ⟨g, 2, none⟩ b2).setCell ⟨g, 3, none⟩ b3).setCell ⟨g, 4, none⟩ b4).setCell ⟨g, 5, none⟩ b5).setCell ⟨g, 6, none⟩ b6).setCell ⟨g, 7, none⟩ b7).heap[g]? = some (.cells #[b0, b1, b2, b3, b4, b5, b6, b7] t (0, 0)) := heap_setCell_same (((((((w.setCell ⟨g, 0, none⟩ b0).setCell ⟨g, 1, none⟩ b1).setCell ⟨g, 2, none⟩ b2).setCell ⟨g, 3, none⟩ b3).setCell ⟨g, 4, none⟩ b4).setCell ⟨g, 5, none⟩ b5).setCell ⟨g, 6, none⟩ b6) g 7 _ t b7 h6
  exact h7
theorem below8 {B g : Nat} {a w : World} (h : Below B a w) (hg : B ≤ g) (b0 b1 b2 b3 b4 b5 b6 b7 : Value) :
    Below B a ((((((((w.setCell ⟨g, 0, none⟩ b0).setCell ⟨g, 1, none⟩ b1).setCell ⟨g, 2, none⟩ b2).setCell ⟨g, 3, none⟩ b3).setCell ⟨g, 4, none⟩ b4).setCell ⟨g, 5, none⟩ b5).setCell ⟨g, 6, none⟩ b6).setCell ⟨g, 7, none⟩ b7) :=
  (((((((h.setCell (p := ⟨g, 0, none⟩) hg b0).setCell (p := ⟨g, 1, none⟩) hg b1).setCell (p := ⟨g, 2, none⟩) hg b2).setCell (p := ⟨g, 3, none⟩) hg b3).setCell (p := ⟨g, 4, none⟩) hg b4).setCell (p := ⟨g, 5, none⟩) hg b5).setCell (p := ⟨g, 6, none⟩) hg b6).setCell (p := ⟨g, 7, none⟩) hg b7

/-- the value that a cell holds, whatever it is -/
def cv (W : World) (p : Addr) : Value := (W.cell? p).getD (.bool false)
theorem cv_eq {W : World} {p : Addr} {v : Value} (h : W.cell? p = some v) : W.cell? p = some (cv W p) := by unfold cv; rw [h]; rfl
/-- what stays as a ledger is made: all below it, and a block of eight cells -/
inductive LedS (s : Nat) (t : TypeId) (W0 W : World) : Prop where
  | intro (h : Below s W0 W) (b0 b1 b2 b3 b4 b5 b6 b7 : Value) (k : W.heap[s]? = some (.cells #[b0, b1, b2, b3, b4, b5, b6, b7] t (0, 0))) : LedS s t W0 W
theorem LedS.blk {s : Nat} {t : TypeId} {W0 W : World} (h : LedS s t W0 W) : Below s W0 W ∧ ∃ b0 b1 b2 b3 b4 b5 b6 b7, W.heap[s]? = some (.cells #[b0, b1, b2, b3, b4, b5, b6, b7] t (0, 0)) := by
  cases h with | intro h b0 b1 b2 b3 b4 b5 b6 b7 k => exact ⟨h, b0, b1, b2, b3, b4, b5, b6, b7, k⟩
theorem LedS.frozen {s : Nat} {t : TypeId} {W0 W : World} (h : LedS s t W0 W) (i : Nat) : W.frozen? ⟨s, i, none⟩ = false := by
  obtain ⟨_, b0, b1, b2, b3, b4, b5, b6, b7, h⟩ := h.blk
  exact frozen_of_row W s i _ t h
theorem LedS.cell {s : Nat} {t : TypeId} {W0 W : World} (h : LedS s t W0 W) (i : Nat) (hi : i < 8) : W.cell? ⟨s, i, none⟩ = some (cv W ⟨s, i, none⟩) := by
  obtain ⟨_, b0, b1, b2, b3, b4, b5, b6, b7, h⟩ := h.blk
  have e : i = 0 ∨ i = 1 ∨ i = 2 ∨ i = 3 ∨ i = 4 ∨ i = 5 ∨ i = 6 ∨ i = 7 := by omega
  rcases e with rfl | rfl | rfl | rfl | rfl | rfl | rfl | rfl
  · exact cv_eq (cell_of_row W _ 0 _ _ _ h)
  · exact cv_eq (cell_of_row W _ 1 _ _ _ h)
  · exact cv_eq (cell_of_row W _ 2 _ _ _ h)
  · exact cv_eq (cell_of_row W _ 3 _ _ _ h)
  · exact cv_eq (cell_of_row W _ 4 _ _ _ h)
  · exact cv_eq (cell_of_row W _ 5 _ _ _ h)
  · exact cv_eq (cell_of_row W _ 6 _ _ _ h)
  · exact cv_eq (cell_of_row W _ 7 _ _ _ h)
theorem LedS.store {s : Nat} {t : TypeId} {W0 W : World} (h : LedS s t W0 W) (v0 v1 v2 v3 v4 v5 v6 v7 : Value) : LedS s t W0 ((((((((W.setCell ⟨s, 0, none⟩ v0).setCell ⟨s, 1, none⟩ v1).setCell ⟨s, 2, none⟩ v2).setCell ⟨s, 3, none⟩ v3).setCell ⟨s, 4, none⟩ v4).setCell ⟨s, 5, none⟩ v5).setCell ⟨s, 6, none⟩ v6).setCell ⟨s, 7, none⟩ v7) := by
  obtain ⟨h0, b0, b1, b2, b3, b4, b5, b6, b7, h⟩ := h.blk
  exact ⟨below8 h0 (Nat.le_refl _) v0 v1 v2 v3 v4 v5 v6 v7, _, _, _, _, _, _, _, _, blk8_set h v0 v1 v2 v3 v4 v5 v6 v7⟩
theorem LedS.below {s : Nat} {t : TypeId} {W0 W W' : World} (h : LedS s t W0 W) (hb : Below W.heap.size W W') : LedS s t W0 W' := by
  obtain ⟨h0, b0, b1, b2, b3, b4, b5, b6, b7, h⟩ := h.blk
  have hl : s < W.heap.size := (Array.getElem?_eq_some_iff.1 h).1
  exact ⟨h0.trans (hb.mono (by omega)), b0, b1, b2, b3, b4, b5, b6, b7, (hb.block s hl).trans h⟩

set_option maxHeartbeats 4000000 in
theorem ledgerOf_any (u x g d : Int) (w : World) :
    Calls Try.prog 185 #[.agg #[.int .i64 u, .int .i64 x, .int .i64 g, .int .i64 d]] w fun e w' => e = .returned (.agg #[.int .i64 u, .int .i64 1000000, .int .i64 x, .int .i64 1000000, .int .i64 g, .int .i64 1000000, .int .i64 d, .int .i64 3]) ∧ Below w.heap.size w w' := by
  have ⟨W0, hW0⟩ : ∃ W0, W0 = (w.alloc (.cells #[.int .i64 u, .int .i64 x, .int .i64 g, .int .i64 d] 190)).alloc (.cells #[.int .i64 0, .int .i64 0, .int .i64 0, .int .i64 0, .int .i64 0, .int .i64 0, .int .i64 0, .int .i64 0] 231) := ⟨_, rfl⟩
  have k1 : W0.heap[w.heap.size]? = some (.cells #[.int .i64 u, .int .i64 x, .int .i64 g, .int .i64 d] 190 (0, 0)) := by rw [hW0]; exact heap_alloc2_old w _ _
  have k2 : W0.heap[w.heap.size + 1]? = some (.cells #[.int .i64 0, .int .i64 0, .int .i64 0, .int .i64 0, .int .i64 0, .int .i64 0, .int .i64 0, .int .i64 0] 231 (0, 0)) := by rw [hW0]; exact heap_alloc2_new w _ _
  have B2 : Hid (Below w.heap.size w W0) := by rw [hW0]; exact ((Below.refl _ _).alloc (Nat.le_refl _) _).alloc (by simp) _
  have KS : Hid (∀ W, LedS (w.heap.size + 1) 231 W0 W → (W.cell? ⟨w.heap.size, 0, none⟩ = some (.int .i64 u) ∧ W.cell? ⟨w.heap.size, 1, none⟩ = some (.int .i64 x) ∧ W.cell? ⟨w.heap.size, 2, none⟩ = some (.int .i64 g) ∧ W.cell? ⟨w.heap.size, 3, none⟩ = some (.int .i64 d) ∧ W.cell? ⟨w.heap.size + 1, 0, none⟩ = some (cv W ⟨w.heap.size + 1, 0, none⟩) ∧ W.frozen? ⟨w.heap.size + 1, 0, none⟩ = false ∧ W.cell? ⟨w.heap.size + 1, 1, none⟩ = some (cv W ⟨w.heap.size + 1, 1, none⟩) ∧ W.frozen? ⟨w.heap.size + 1, 1, none⟩ = false ∧ W.cell? ⟨w.heap.size + 1, 2, none⟩ = some (cv W ⟨w.heap.size + 1, 2, none⟩) ∧ W.frozen? ⟨w.heap.size + 1, 2, none⟩ = false ∧ W.cell? ⟨w.heap.size + 1, 3, none⟩ = some (cv W ⟨w.heap.size + 1, 3, none⟩) ∧ W.frozen? ⟨w.heap.size + 1, 3, none⟩ = false ∧ W.cell? ⟨w.heap.size + 1, 4, none⟩ = some (cv W ⟨w.heap.size + 1, 4, none⟩) ∧ W.frozen? ⟨w.heap.size + 1, 4, none⟩ = false ∧ W.cell? ⟨w.heap.size + 1, 5, none⟩ = some (cv W ⟨w.heap.size + 1, 5, none⟩) ∧ W.frozen? ⟨w.heap.size + 1, 5, none⟩ = false ∧ W.cell? ⟨w.heap.size + 1, 6, none⟩ = some (cv W ⟨w.heap.size + 1, 6, none⟩) ∧ W.frozen? ⟨w.heap.size + 1, 6, none⟩ = false ∧ W.cell? ⟨w.heap.size + 1, 7, none⟩ = some (cv W ⟨w.heap.size + 1, 7, none⟩) ∧ W.frozen? ⟨w.heap.size + 1, 7, none⟩ = false ∧ LedS (w.heap.size + 1) 231 W0 W)) := fun W h => ⟨(h.blk.1.cell (p := ⟨w.heap.size, 0, none⟩) (by simp)).trans (cell_of_row W0 _ 0 _ _ _ k1), (h.blk.1.cell (p := ⟨w.heap.size, 1, none⟩) (by simp)).trans (cell_of_row W0 _ 1 _ _ _ k1), (h.blk.1.cell (p := ⟨w.heap.size, 2, none⟩) (by simp)).trans (cell_of_row W0 _ 2 _ _ _ k1), (h.blk.1.cell (p := ⟨w.heap.size, 3, none⟩) (by simp)).trans (cell_of_row W0 _ 3 _ _ _ k1), h.cell 0 (by omega), h.frozen 0, h.cell 1 (by omega), h.frozen 1, h.cell 2 (by omega), h.frozen 2, h.cell 3 (by omega), h.frozen 3, h.cell 4 (by omega), h.frozen 4, h.cell 5 (by omega), h.frozen 5, h.cell 6 (by omega), h.frozen 6, h.cell 7 (by omega), h.frozen 7, h⟩
  have PS : Hid (∀ W, (W.cell? ⟨w.heap.size, 0, none⟩ = some (.int .i64 u) ∧ W.cell? ⟨w.heap.size, 1, none⟩ = some (.int .i64 x) ∧ W.cell? ⟨w.heap.size, 2, none⟩ = some (.int .i64 g) ∧ W.cell? ⟨w.heap.size, 3, none⟩ = some (.int .i64 d) ∧ W.cell? ⟨w.heap.size + 1, 0, none⟩ = some (cv W ⟨w.heap.size + 1, 0, none⟩) ∧ W.frozen? ⟨w.heap.size + 1, 0, none⟩ = false ∧ W.cell? ⟨w.heap.size + 1, 1, none⟩ = some (cv W ⟨w.heap.size + 1, 1, none⟩) ∧ W.frozen? ⟨w.heap.size + 1, 1, none⟩ = false ∧ W.cell? ⟨w.heap.size + 1, 2, none⟩ = some (cv W ⟨w.heap.size + 1, 2, none⟩) ∧ W.frozen? ⟨w.heap.size + 1, 2, none⟩ = false ∧ W.cell? ⟨w.heap.size + 1, 3, none⟩ = some (cv W ⟨w.heap.size + 1, 3, none⟩) ∧ W.frozen? ⟨w.heap.size + 1, 3, none⟩ = false ∧ W.cell? ⟨w.heap.size + 1, 4, none⟩ = some (cv W ⟨w.heap.size + 1, 4, none⟩) ∧ W.frozen? ⟨w.heap.size + 1, 4, none⟩ = false ∧ W.cell? ⟨w.heap.size + 1, 5, none⟩ = some (cv W ⟨w.heap.size + 1, 5, none⟩) ∧ W.frozen? ⟨w.heap.size + 1, 5, none⟩ = false ∧ W.cell? ⟨w.heap.size + 1, 6, none⟩ = some (cv W ⟨w.heap.size + 1, 6, none⟩) ∧ W.frozen? ⟨w.heap.size + 1, 6, none⟩ = false ∧ W.cell? ⟨w.heap.size + 1, 7, none⟩ = some (cv W ⟨w.heap.size + 1, 7, none⟩) ∧ W.frozen? ⟨w.heap.size + 1, 7, none⟩ = false ∧ LedS (w.heap.size + 1) 231 W0 W) → LedS (w.heap.size + 1) 231 W0 W) := fun W h => h.2.2.2.2.2.2.2.2.2.2.2.2.2.2.2.2.2.2.2.2
  have CT : Hid (∀ (c : Int) W, LedS (w.heap.size + 1) 231 W0 W → Calls Try.prog 191 #[.int .i64 c] W fun e w' => e = .returned (.agg #[.int .i64 c, .int .i64 1000000]) ∧ LedS (w.heap.size + 1) 231 W0 w') := fun c W h =>
    (ticksOf_any c W).mono fun e w' hb => ⟨hb.1, h.below hb.2⟩
  have R0 : Hid (LedS (w.heap.size + 1) 231 W0 W0.drew) := ⟨Below.drew (Below.refl _ _), _, _, _, _, _, _, _, _, k2⟩
  have ST : Hid (∀ W v0 v1 v2 v3 v4 v5 v6 v7, (W.cell? ⟨w.heap.size, 0, none⟩ = some (.int .i64 u) ∧ W.cell? ⟨w.heap.size, 1, none⟩ = some (.int .i64 x) ∧ W.cell? ⟨w.heap.size, 2, none⟩ = some (.int .i64 g) ∧ W.cell? ⟨w.heap.size, 3, none⟩ = some (.int .i64 d) ∧ W.cell? ⟨w.heap.size + 1, 0, none⟩ = some (cv W ⟨w.heap.size + 1, 0, none⟩) ∧ W.frozen? ⟨w.heap.size + 1, 0, none⟩ = false ∧ W.cell? ⟨w.heap.size + 1, 1, none⟩ = some (cv W ⟨w.heap.size + 1, 1, none⟩) ∧ W.frozen? ⟨w.heap.size + 1, 1, none⟩ = false ∧ W.cell? ⟨w.heap.size + 1, 2, none⟩ = some (cv W ⟨w.heap.size + 1, 2, none⟩) ∧ W.frozen? ⟨w.heap.size + 1, 2, none⟩ = false ∧ W.cell? ⟨w.heap.size + 1, 3, none⟩ = some (cv W ⟨w.heap.size + 1, 3, none⟩) ∧ W.frozen? ⟨w.heap.size + 1, 3, none⟩ = false ∧ W.cell? ⟨w.heap.size + 1, 4, none⟩ = some (cv W ⟨w.heap.size + 1, 4, none⟩) ∧ W.frozen? ⟨w.heap.size + 1, 4, none⟩ = false ∧ W.cell? ⟨w.heap.size + 1, 5, none⟩ = some (cv W ⟨w.heap.size + 1, 5, none⟩) ∧ W.frozen? ⟨w.heap.size + 1, 5, none⟩ = false ∧ W.cell? ⟨w.heap.size + 1, 6, none⟩ = some (cv W ⟨w.heap.size + 1, 6, none⟩) ∧ W.frozen? ⟨w.heap.size + 1, 6, none⟩ = false ∧ W.cell? ⟨w.heap.size + 1, 7, none⟩ = some (cv W ⟨w.heap.size + 1, 7, none⟩) ∧ W.frozen? ⟨w.heap.size + 1, 7, none⟩ = false ∧ LedS (w.heap.size + 1) 231 W0 W) → LedS (w.heap.size + 1) 231 W0 ((((((((W.setCell ⟨w.heap.size + 1, 0, none⟩ v0).setCell ⟨w.heap.size + 1, 1, none⟩ v1).setCell ⟨w.heap.size + 1, 2, none⟩ v2).setCell ⟨w.heap.size + 1, 3, none⟩ v3).setCell ⟨w.heap.size + 1, 4, none⟩ v4).setCell ⟨w.heap.size + 1, 5, none⟩ v5).setCell ⟨w.heap.size + 1, 6, none⟩ v6).setCell ⟨w.heap.size + 1, 7, none⟩ v7)) := fun W v0 v1 v2 v3 v4 v5 v6 v7 h => (PS.out W h).store v0 v1 v2 v3 v4 v5 v6 v7
  clear k1 k2
  go_enter Try.func185, Try.ntmps185
  go_wp2_with fail
  rw [← hW0]
  clear hW0
  go_region_held3 (fun W => (W.cell? ⟨w.heap.size, 0, none⟩ = some (.int .i64 u) ∧ W.cell? ⟨w.heap.size, 1, none⟩ = some (.int .i64 x) ∧ W.cell? ⟨w.heap.size, 2, none⟩ = some (.int .i64 g) ∧ W.cell? ⟨w.heap.size, 3, none⟩ = some (.int .i64 d) ∧ W.cell? ⟨w.heap.size + 1, 0, none⟩ = some (cv W ⟨w.heap.size + 1, 0, none⟩) ∧ W.frozen? ⟨w.heap.size + 1, 0, none⟩ = false ∧ W.cell? ⟨w.heap.size + 1, 1, none⟩ = some (cv W ⟨w.heap.size + 1, 1, none⟩) ∧ W.frozen? ⟨w.heap.size + 1, 1, none⟩ = false ∧ W.cell? ⟨w.heap.size + 1, 2, none⟩ = some (cv W ⟨w.heap.size + 1, 2, none⟩) ∧ W.frozen? ⟨w.heap.size + 1, 2, none⟩ = false ∧ W.cell? ⟨w.heap.size + 1, 3, none⟩ = some (cv W ⟨w.heap.size + 1, 3, none⟩) ∧ W.frozen? ⟨w.heap.size + 1, 3, none⟩ = false ∧ W.cell? ⟨w.heap.size + 1, 4, none⟩ = some (cv W ⟨w.heap.size + 1, 4, none⟩) ∧ W.frozen? ⟨w.heap.size + 1, 4, none⟩ = false ∧ W.cell? ⟨w.heap.size + 1, 5, none⟩ = some (cv W ⟨w.heap.size + 1, 5, none⟩) ∧ W.frozen? ⟨w.heap.size + 1, 5, none⟩ = false ∧ W.cell? ⟨w.heap.size + 1, 6, none⟩ = some (cv W ⟨w.heap.size + 1, 6, none⟩) ∧ W.frozen? ⟨w.heap.size + 1, 6, none⟩ = false ∧ W.cell? ⟨w.heap.size + 1, 7, none⟩ = some (cv W ⟨w.heap.size + 1, 7, none⟩) ∧ W.frozen? ⟨w.heap.size + 1, 7, none⟩ = false ∧ LedS (w.heap.size + 1) 231 W0 W)) (first | with_reducible exact KS.out _ (by assumption) | with_reducible exact KS.out _ R0.out | with_reducible exact KS.out _ (ST.out _ _ _ _ _ _ _ _ _ (by assumption))) (first | (go_at_call 191; with_reducible refine (CT.out _ _ (PS.out _ (by assumption))).mono ?_; rintro e w' ⟨rfl, hb⟩))
  obtain ⟨h0, b0, b1, b2, b3, b4, b5, b6, b7, hk⟩ := hb.blk
  have HB := Lib.hid (B2.out.trans (h0.mono (by omega)))
  have HK := Lib.hid hk
  clear hk h0
  go_wp2
  exact bodyPost_ret (results_cell_row rfl _ _ (w.heap.size + 1) _ _ (0, 0) _ rfl (blk8_set HK.out _ _ _ _ _ _ _ _) Try.underlying231 rfl (by kernel_rfl)) rfl ⟨rfl, below8 HB.out (by omega) _ _ _ _ _ _ _ _⟩

end Go.Proofs.Ytaemegkdmbhpnaa

namespace Go.Proofs.Ytaemegkdmbhpnaa
open Go.RowKit

theorem led_cells {W1 : World} {s : Nat} {u x g d : Int} {t : TypeId} (hk : W1.heap[s]? = some (.cells #[.int .i64 u, .int .i64 1000000, .int .i64 x, .int .i64 1000000, .int .i64 g, .int .i64 1000000, .int .i64 d, .int .i64 3] t (0, 0))) : ∀ W, Below (s + 1) W1 W → (W.cell? ⟨s, 0, none⟩ = some (.int .i64 u) ∧ W.cell? ⟨s, 1, none⟩ = some (.int .i64 1000000) ∧ W.cell? ⟨s, 2, none⟩ = some (.int .i64 x) ∧ W.cell? ⟨s, 3, none⟩ = some (.int .i64 1000000) ∧ W.cell? ⟨s, 4, none⟩ = some (.int .i64 g) ∧ W.cell? ⟨s, 5, none⟩ = some (.int .i64 1000000) ∧ W.cell? ⟨s, 6, none⟩ = some (.int .i64 d) ∧ W.cell? ⟨s, 7, none⟩ = some (.int .i64 3)) := fun W hB => ⟨cell_of_row W s 0 _ _ _ ((hB.block s (by omega)).trans hk), cell_of_row W s 1 _ _ _ ((hB.block s (by omega)).trans hk), cell_of_row W s 2 _ _ _ ((hB.block s (by omega)).trans hk), cell_of_row W s 3 _ _ _ ((hB.block s (by omega)).trans hk), cell_of_row W s 4 _ _ _ ((hB.block s (by omega)).trans hk), cell_of_row W s 5 _ _ _ ((hB.block s (by omega)).trans hk), cell_of_row W s 6 _ _ _ ((hB.block s (by omega)).trans hk), cell_of_row W s 7 _ _ _ ((hB.block s (by omega)).trans hk)⟩

theorem implAccountFault_any (u x g d : Int) (w : World) :
    Calls Try.prog 154 #[.agg #[.int .i64 u, .int .i64 x, .int .i64 g, .int .i64 d]] w fun e w' => e = .returned (.int .i64 (af u x g d)) ∧ Below w.heap.size w w' := by
  have B1 := Lib.hid (below_new w (.cells #[.int .i64 u, .int .i64 x, .int .i64 g, .int .i64 d] 190))
  have FIN : ∀ (b0 b1 b2 b3 : Bool), inR 0 1000000 u = b0 → inR 0 1000000 x = b1 → inR 0 1000000 g = b2 → inR 0 3 d = b3 → Calls Try.prog 154 #[.agg #[.int .i64 u, .int .i64 x, .int .i64 g, .int .i64 d]] w fun e w' => e = .returned (.int .i64 (if b0 && b1 && b2 && b3 then 0 else 3)) ∧ Below w.heap.size w w' := by
    intro b0 b1 b2 b3 i0 i1 i2 i3
    have CA := fits_any u 1000000; have CB := fits_any x 1000000; have CC := fits_any g 1000000; have CD := fits_any d 3
    rw [i0] at CA; rw [i1] at CB; rw [i2] at CC; rw [i3] at CD
    clear i0 i1 i2 i3
    have HA := Lib.hid CA; have HB := Lib.hid CB; have HC := Lib.hid CC; have HD := Lib.hid CD
    clear CA CB CC CD
    rcases b0 with _ | _
    · go_enter Try.func154, Try.ntmps154
      go_wp2_with fail
      refine (ledgerOf_any u x g d _).mono ?_
      rintro e w1 ⟨rfl, hb⟩
      have hs : w.heap.size < w1.heap.size := by have := hb.size; simp at this; omega
      have BL := Lib.hid ((B1.out.trans (hb.mono (by simp))).alloc (by omega) (.cells #[.int .i64 u, .int .i64 1000000, .int .i64 x, .int .i64 1000000, .int .i64 g, .int .i64 1000000, .int .i64 d, .int .i64 3] 231))
      have KC := Lib.hid (led_cells (heap_alloc_new w1 (.cells #[.int .i64 u, .int .i64 1000000, .int .i64 x, .int .i64 1000000, .int .i64 g, .int .i64 1000000, .int .i64 d, .int .i64 3] 231)))
      have R := Lib.hid (Below.refl (w1.heap.size + 1) (w1.alloc (.cells #[.int .i64 u, .int .i64 1000000, .int .i64 x, .int .i64 1000000, .int .i64 g, .int .i64 1000000, .int .i64 d, .int .i64 3] 231)))
      clear hb
      go_wp2_with fail
      refine (HA.out _).mono ?_
      rintro e wnHA ⟨rfl, hb⟩
      have R := Lib.hid (R.out.trans (hb.mono (by have := R.out.size; first | (simp at this ⊢; omega) | simp | omega)))
      obtain ⟨q0, q1, q2, q3, q4, q5, q6, q7⟩ := KC.out _ R.out
      clear hb
      go_wp2
      go_ret
      exact ⟨rfl, BL.out.trans (R.out.mono (by omega))⟩
    · rcases b1 with _ | _
      · go_enter Try.func154, Try.ntmps154
        go_wp2_with fail
        refine (ledgerOf_any u x g d _).mono ?_
        rintro e w1 ⟨rfl, hb⟩
        have hs : w.heap.size < w1.heap.size := by have := hb.size; simp at this; omega
        have BL := Lib.hid ((B1.out.trans (hb.mono (by simp))).alloc (by omega) (.cells #[.int .i64 u, .int .i64 1000000, .int .i64 x, .int .i64 1000000, .int .i64 g, .int .i64 1000000, .int .i64 d, .int .i64 3] 231))
        have KC := Lib.hid (led_cells (heap_alloc_new w1 (.cells #[.int .i64 u, .int .i64 1000000, .int .i64 x, .int .i64 1000000, .int .i64 g, .int .i64 1000000, .int .i64 d, .int .i64 3] 231)))
        have R := Lib.hid (Below.refl (w1.heap.size + 1) (w1.alloc (.cells #[.int .i64 u, .int .i64 1000000, .int .i64 x, .int .i64 1000000, .int .i64 g, .int .i64 1000000, .int .i64 d, .int .i64 3] 231)))
        clear hb
        go_wp2_with fail
        refine (HA.out _).mono ?_
        rintro e wnHA ⟨rfl, hb⟩
        have R := Lib.hid (R.out.trans (hb.mono (by have := R.out.size; first | (simp at this ⊢; omega) | simp | omega)))
        obtain ⟨q0, q1, q2, q3, q4, q5, q6, q7⟩ := KC.out _ R.out
        clear hb
        go_wp2_with fail
        refine (HB.out _).mono ?_
        rintro e wnHB ⟨rfl, hb⟩
        have R := Lib.hid (R.out.trans (hb.mono (by have := R.out.size; first | (simp at this ⊢; omega) | simp | omega)))
        obtain ⟨q0, q1, q2, q3, q4, q5, q6, q7⟩ := KC.out _ R.out
        clear hb
        go_wp2
        go_ret
        exact ⟨rfl, BL.out.trans (R.out.mono (by omega))⟩
      · rcases b2 with _ | _
        · go_enter Try.func154, Try.ntmps154
          go_wp2_with fail
          refine (ledgerOf_any u x g d _).mono ?_
          rintro e w1 ⟨rfl, hb⟩
          have hs : w.heap.size < w1.heap.size := by have := hb.size; simp at this; omega
          have BL := Lib.hid ((B1.out.trans (hb.mono (by simp))).alloc (by omega) (.cells #[.int .i64 u, .int .i64 1000000, .int .i64 x, .int .i64 1000000, .int .i64 g, .int .i64 1000000, .int .i64 d, .int .i64 3] 231))
          have KC := Lib.hid (led_cells (heap_alloc_new w1 (.cells #[.int .i64 u, .int .i64 1000000, .int .i64 x, .int .i64 1000000, .int .i64 g, .int .i64 1000000, .int .i64 d, .int .i64 3] 231)))
          have R := Lib.hid (Below.refl (w1.heap.size + 1) (w1.alloc (.cells #[.int .i64 u, .int .i64 1000000, .int .i64 x, .int .i64 1000000, .int .i64 g, .int .i64 1000000, .int .i64 d, .int .i64 3] 231)))
          clear hb
          go_wp2_with fail
          refine (HA.out _).mono ?_
          rintro e wnHA ⟨rfl, hb⟩
          have R := Lib.hid (R.out.trans (hb.mono (by have := R.out.size; first | (simp at this ⊢; omega) | simp | omega)))
          obtain ⟨q0, q1, q2, q3, q4, q5, q6, q7⟩ := KC.out _ R.out
          clear hb
          go_wp2_with fail
          refine (HB.out _).mono ?_
          rintro e wnHB ⟨rfl, hb⟩
          have R := Lib.hid (R.out.trans (hb.mono (by have := R.out.size; first | (simp at this ⊢; omega) | simp | omega)))
          obtain ⟨q0, q1, q2, q3, q4, q5, q6, q7⟩ := KC.out _ R.out
          clear hb
          go_wp2_with fail
          refine (HC.out _).mono ?_
          rintro e wnHC ⟨rfl, hb⟩
          have R := Lib.hid (R.out.trans (hb.mono (by have := R.out.size; first | (simp at this ⊢; omega) | simp | omega)))
          obtain ⟨q0, q1, q2, q3, q4, q5, q6, q7⟩ := KC.out _ R.out
          clear hb
          go_wp2
          go_ret
          exact ⟨rfl, BL.out.trans (R.out.mono (by omega))⟩
        · rcases b3 with _ | _
          · go_enter Try.func154, Try.ntmps154
            go_wp2_with fail
            refine (ledgerOf_any u x g d _).mono ?_
            rintro e w1 ⟨rfl, hb⟩
            have hs : w.heap.size < w1.heap.size := by have := hb.size; simp at this; omega
            have BL := Lib.hid ((B1.out.trans (hb.mono (by simp))).alloc (by omega) (.cells #[.int .i64 u, .int .i64 1000000, .int .i64 x, .int .i64 1000000, .int .i64 g, .int .i64 1000000, .int .i64 d, .int .i64 3] 231))
            have KC := Lib.hid (led_cells (heap_alloc_new w1 (.cells #[.int .i64 u, .int .i64 1000000, .int .i64 x, .int .i64 1000000, .int .i64 g, .int .i64 1000000, .int .i64 d, .int .i64 3] 231)))
            have R := Lib.hid (Below.refl (w1.heap.size + 1) (w1.alloc (.cells #[.int .i64 u, .int .i64 1000000, .int .i64 x, .int .i64 1000000, .int .i64 g, .int .i64 1000000, .int .i64 d, .int .i64 3] 231)))
            clear hb
            go_wp2_with fail
            refine (HA.out _).mono ?_
            rintro e wnHA ⟨rfl, hb⟩
            have R := Lib.hid (R.out.trans (hb.mono (by have := R.out.size; first | (simp at this ⊢; omega) | simp | omega)))
            obtain ⟨q0, q1, q2, q3, q4, q5, q6, q7⟩ := KC.out _ R.out
            clear hb
            go_wp2_with fail
            refine (HB.out _).mono ?_
            rintro e wnHB ⟨rfl, hb⟩
            have R := Lib.hid (R.out.trans (hb.mono (by have := R.out.size; first | (simp at this ⊢; omega) | simp | omega)))
            obtain ⟨q0, q1, q2, q3, q4, q5, q6, q7⟩ := KC.out _ R.out
            clear hb
            go_wp2_with fail
            refine (HC.out _).mono ?_
            rintro e wnHC ⟨rfl, hb⟩
            have R := Lib.hid (R.out.trans (hb.mono (by have := R.out.size; first | (simp at this ⊢; omega) | simp | omega)))
            obtain ⟨q0, q1, q2, q3, q4, q5, q6, q7⟩ := KC.out _ R.out
            clear hb
            go_wp2_with fail
            refine (HD.out _).mono ?_
            rintro e wnHD ⟨rfl, hb⟩
            have R := Lib.hid (R.out.trans (hb.mono (by have := R.out.size; first | (simp at this ⊢; omega) | simp | omega)))
            obtain ⟨q0, q1, q2, q3, q4, q5, q6, q7⟩ := KC.out _ R.out
            clear hb
            go_wp2
            go_ret
            exact ⟨rfl, BL.out.trans (R.out.mono (by omega))⟩
          · go_enter Try.func154, Try.ntmps154
            go_wp2_with fail
            refine (ledgerOf_any u x g d _).mono ?_
            rintro e w1 ⟨rfl, hb⟩
            have hs : w.heap.size < w1.heap.size := by have := hb.size; simp at this; omega
            have BL := Lib.hid ((B1.out.trans (hb.mono (by simp))).alloc (by omega) (.cells #[.int .i64 u, .int .i64 1000000, .int .i64 x, .int .i64 1000000, .int .i64 g, .int .i64 1000000, .int .i64 d, .int .i64 3] 231))
            have KC := Lib.hid (led_cells (heap_alloc_new w1 (.cells #[.int .i64 u, .int .i64 1000000, .int .i64 x, .int .i64 1000000, .int .i64 g, .int .i64 1000000, .int .i64 d, .int .i64 3] 231)))
            have R := Lib.hid (Below.refl (w1.heap.size + 1) (w1.alloc (.cells #[.int .i64 u, .int .i64 1000000, .int .i64 x, .int .i64 1000000, .int .i64 g, .int .i64 1000000, .int .i64 d, .int .i64 3] 231)))
            clear hb
            go_wp2_with fail
            refine (HA.out _).mono ?_
            rintro e wnHA ⟨rfl, hb⟩
            have R := Lib.hid (R.out.trans (hb.mono (by have := R.out.size; first | (simp at this ⊢; omega) | simp | omega)))
            obtain ⟨q0, q1, q2, q3, q4, q5, q6, q7⟩ := KC.out _ R.out
            clear hb
            go_wp2_with fail
            refine (HB.out _).mono ?_
            rintro e wnHB ⟨rfl, hb⟩
            have R := Lib.hid (R.out.trans (hb.mono (by have := R.out.size; first | (simp at this ⊢; omega) | simp | omega)))
            obtain ⟨q0, q1, q2, q3, q4, q5, q6, q7⟩ := KC.out _ R.out
            clear hb
            go_wp2_with fail
            refine (HC.out _).mono ?_
            rintro e wnHC ⟨rfl, hb⟩
            have R := Lib.hid (R.out.trans (hb.mono (by have := R.out.size; first | (simp at this ⊢; omega) | simp | omega)))
            obtain ⟨q0, q1, q2, q3, q4, q5, q6, q7⟩ := KC.out _ R.out
            clear hb
            go_wp2_with fail
            refine (HD.out _).mono ?_
            rintro e wnHD ⟨rfl, hb⟩
            have R := Lib.hid (R.out.trans (hb.mono (by have := R.out.size; first | (simp at this ⊢; omega) | simp | omega)))
            obtain ⟨q0, q1, q2, q3, q4, q5, q6, q7⟩ := KC.out _ R.out
            clear hb
            go_wp2
            go_ret
            exact ⟨rfl, BL.out.trans (R.out.mono (by omega))⟩
  have e : af u x g d = if inR 0 1000000 u && inR 0 1000000 x && inR 0 1000000 g && inR 0 3 d then 0 else 3 := by
    unfold af inR
    simp only [← Bool.decide_and, decide_eq_true_eq, and_assoc]
  rw [e]
  exact FIN _ _ _ _ rfl rfl rfl rfl

end Go.Proofs.Ytaemegkdmbhpnaa
