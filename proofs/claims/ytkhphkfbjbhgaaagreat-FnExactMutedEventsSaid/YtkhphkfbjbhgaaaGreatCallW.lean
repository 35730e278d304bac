/-
  The walks of FnExactCallFault and FnExactEventFault: they return true for every call and event, where the program's functions answer as the model's.
-/
import Derived.Test.YtkhphkfbjbhgaaaGreatSpec3a
namespace Go.Proofs.YtkhphkfbjbhgaaaGreat
open Go.RowKit

set_option maxHeartbeats 1000000 in
theorem toCall_any (k e s t : Int) (w : World) :
    Calls Tryz.prog 132 #[.agg #[.int .i64 k, .int .i64 e, .int .i64 s, .int .i64 t]] w fun r w' => r = .returned (.agg #[.int .i64 k, .int .i64 e, .int .i64 s, .int .i64 t]) ∧ Below w.heap.size w w' := by
  have B3 : Hid (∀ o o' o'', Below w.heap.size w (((w.alloc o).alloc o').alloc o'')) := fun o o' o'' => (((Below.refl _ _).alloc (Nat.le_refl _) o).alloc (by simp) o').alloc (by simp; omega) o''
  go_enter Tryz.func132, Tryz.ntmps132
  go_wp2
  go_returns
  exact ⟨rfl, B3.out _ _ _⟩

set_option maxHeartbeats 1000000 in
theorem toAct_any (a b : Int) (w : World) :
    Calls Tryz.prog 131 #[.agg #[.int .i64 a, .int .i64 b]] w fun r w' => r = .returned (.agg #[.int .i64 a, .int .i64 b]) ∧ Below w.heap.size w w' := by
  have B3 : Hid (∀ o o' o'', Below w.heap.size w (((w.alloc o).alloc o').alloc o'')) := fun o o' o'' => (((Below.refl _ _).alloc (Nat.le_refl _) o).alloc (by simp) o').alloc (by simp; omega) o''
  go_enter Tryz.func131, Tryz.ntmps131
  go_wp2
  go_returns
  exact ⟨rfl, B3.out _ _ _⟩

set_option maxHeartbeats 2000000 in
theorem toEvent_any (k a b c e s t : Int) (w : World) :
    Calls Tryz.prog 63 #[.agg #[.int .i64 k, .int .i64 a, .int .i64 b, .int .i64 c, .int .i64 e, .int .i64 s, .int .i64 t]] w fun r w' => r = .returned (.agg #[.int .i64 k, .int .i64 a, .int .i64 b, .int .i64 c, .int .i64 e, .int .i64 s, .int .i64 t]) ∧ Below w.heap.size w w' := by
  have A0 := (Below.heap_alloc ((w.alloc (.cells #[.int .i64 k, .int .i64 a, .int .i64 b, .int .i64 c, .int .i64 e, .int .i64 s, .int .i64 t] 98)).alloc (.cells #[.int .i64 0, .int .i64 0, .int .i64 0, .int .i64 0, .int .i64 0, .int .i64 0, .int .i64 0] 78)) (.cells #[.int .i64 0, .int .i64 0, .int .i64 0, .int .i64 0, .int .i64 0, .int .i64 0, .int .i64 0] 78) w.heap.size (by simp; omega)).trans (heap_alloc2_old w (.cells #[.int .i64 k, .int .i64 a, .int .i64 b, .int .i64 c, .int .i64 e, .int .i64 s, .int .i64 t] 98) (.cells #[.int .i64 0, .int .i64 0, .int .i64 0, .int .i64 0, .int .i64 0, .int .i64 0, .int .i64 0] 78))
  have Z0 := (Below.heap_alloc ((w.alloc (.cells #[.int .i64 k, .int .i64 a, .int .i64 b, .int .i64 c, .int .i64 e, .int .i64 s, .int .i64 t] 98)).alloc (.cells #[.int .i64 0, .int .i64 0, .int .i64 0, .int .i64 0, .int .i64 0, .int .i64 0, .int .i64 0] 78)) (.cells #[.int .i64 0, .int .i64 0, .int .i64 0, .int .i64 0, .int .i64 0, .int .i64 0, .int .i64 0] 78) (w.heap.size + 1) (by simp)).trans (heap_alloc2_new w (.cells #[.int .i64 k, .int .i64 a, .int .i64 b, .int .i64 c, .int .i64 e, .int .i64 s, .int .i64 t] 98) (.cells #[.int .i64 0, .int .i64 0, .int .i64 0, .int .i64 0, .int .i64 0, .int .i64 0, .int .i64 0] 78))
  have X0 : (((w.alloc (.cells #[.int .i64 k, .int .i64 a, .int .i64 b, .int .i64 c, .int .i64 e, .int .i64 s, .int .i64 t] 98)).alloc (.cells #[.int .i64 0, .int .i64 0, .int .i64 0, .int .i64 0, .int .i64 0, .int .i64 0, .int .i64 0] 78)).alloc (.cells #[.int .i64 0, .int .i64 0, .int .i64 0, .int .i64 0, .int .i64 0, .int .i64 0, .int .i64 0] 78)).heap[w.heap.size + 1 + 1]? = some (.cells #[.int .i64 0, .int .i64 0, .int .i64 0, .int .i64 0, .int .i64 0, .int .i64 0, .int .i64 0] 78 (0, 0)) := by
    have := heap_alloc_new ((w.alloc (.cells #[.int .i64 k, .int .i64 a, .int .i64 b, .int .i64 c, .int .i64 e, .int .i64 s, .int .i64 t] 98)).alloc (.cells #[.int .i64 0, .int .i64 0, .int .i64 0, .int .i64 0, .int .i64 0, .int .i64 0, .int .i64 0] 78)) (.cells #[.int .i64 0, .int .i64 0, .int .i64 0, .int .i64 0, .int .i64 0, .int .i64 0, .int .i64 0] 78)
    simp only [World.size_alloc] at this
    exact this
  have B0 : Below w.heap.size w (((w.alloc (.cells #[.int .i64 k, .int .i64 a, .int .i64 b, .int .i64 c, .int .i64 e, .int .i64 s, .int .i64 t] 98)).alloc (.cells #[.int .i64 0, .int .i64 0, .int .i64 0, .int .i64 0, .int .i64 0, .int .i64 0, .int .i64 0] 78)).alloc (.cells #[.int .i64 0, .int .i64 0, .int .i64 0, .int .i64 0, .int .i64 0, .int .i64 0, .int .i64 0] 78)) := (((Below.refl _ _).alloc (Nat.le_refl _) _).alloc (by simp) _).alloc (by simp; omega) _
  go_enter Tryz.func63, Tryz.ntmps63
  go_upto_region 2 with (fail)
  obtain ⟨w0, h0⟩ : ∃ w0, w0 = (((w.alloc (.cells #[.int .i64 k, .int .i64 a, .int .i64 b, .int .i64 c, .int .i64 e, .int .i64 s, .int .i64 t] 98)).alloc (.cells #[.int .i64 0, .int .i64 0, .int .i64 0, .int .i64 0, .int .i64 0, .int .i64 0, .int .i64 0] 78)).alloc (.cells #[.int .i64 0, .int .i64 0, .int .i64 0, .int .i64 0, .int .i64 0, .int .i64 0, .int .i64 0] 78)) := ⟨_, rfl⟩
  rw [← h0] at A0 Z0 X0 B0 ⊢
  clear h0
  have q0 := cell_of_row w0 _ 0 _ _ _ A0; have x0 := cell_of_row w0 _ 0 _ _ _ X0; have f0 := frozen_of_row w0 _ 0 _ _ X0
  simp at q0 x0
  go_upto_region 3 with (fail)
  obtain ⟨w1, h1⟩ : ∃ w1, w1 = (w0.setCell ⟨w.heap.size + 1 + 1, 0, none⟩ (.int .i64 k)) := ⟨_, rfl⟩
  have X1 : Hid (w1.heap[w.heap.size + 1 + 1]? = some (.cells #[.int .i64 k, .int .i64 0, .int .i64 0, .int .i64 0, .int .i64 0, .int .i64 0, .int .i64 0] 78 (0, 0))) := by rw [h1]; exact (heap_setCell_same _ _ 0 _ _ _ X0)
  have A1 : Hid (w1.heap[w.heap.size]? = some (.cells #[.int .i64 k, .int .i64 a, .int .i64 b, .int .i64 c, .int .i64 e, .int .i64 s, .int .i64 t] 98 (0, 0))) := by rw [h1]; exact ((Below.heap_setCell _ ⟨w.heap.size + 1 + 1, 0, none⟩ _ _ (by first | (simp; done) | (simp; omega))).trans A0)
  have Z1 : Hid (w1.heap[w.heap.size + 1]? = some (.cells #[.int .i64 0, .int .i64 0, .int .i64 0, .int .i64 0, .int .i64 0, .int .i64 0, .int .i64 0] 78 (0, 0))) := by rw [h1]; exact ((Below.heap_setCell _ ⟨w.heap.size + 1 + 1, 0, none⟩ _ _ (by first | (simp; done) | (simp; omega))).trans Z0)
  have B1 : Hid (Below w.heap.size w w1) := by rw [h1]; exact (B0.setCell (p := ⟨w.heap.size + 1 + 1, 0, none⟩) (by first | (simp; done) | (simp; omega)) _)
  have S1 : Hid (w.heap.size + 1 + 1 < w1.heap.size) := (Array.getElem?_eq_some_iff.1 X1.out).1
  rw [← h1]
  clear A0 Z0 X0 B0 q0 x0 f0 h1
  have q0 := cell_of_row w1 _ 0 _ _ _ A1.out
  have q1 := cell_of_row w1 _ 1 _ _ _ A1.out
  have q2 := cell_of_row w1 _ 2 _ _ _ A1.out
  have q3 := cell_of_row w1 _ 3 _ _ _ A1.out
  have q4 := cell_of_row w1 _ 4 _ _ _ A1.out
  have q5 := cell_of_row w1 _ 5 _ _ _ A1.out
  have q6 := cell_of_row w1 _ 6 _ _ _ A1.out
  simp at q0 q1 q2 q3 q4 q5 q6
  go_wp2_with fail
  refine (toAct_any a b _).mono ?_
  rintro r9 v1 ⟨rfl, hb⟩
  have xb := (hb.block (w.heap.size + 1 + 1) S1.out).trans X1.out
  have ab := (hb.block w.heap.size (by have := S1.out; omega)).trans A1.out
  have zb := (hb.block (w.heap.size + 1) (by have := S1.out; omega)).trans Z1.out
  have bb : Below w.heap.size w v1 := B1.out.trans (hb.mono (by have := S1.out; omega))
  clear hb
  clear q0 q1 q2 q3 q4 q5 q6
  have x0 := cell_of_row v1 _ 0 _ _ _ xb
  have x1 := cell_of_row v1 _ 1 _ _ _ xb
  have x2 := cell_of_row v1 _ 2 _ _ _ xb
  have x3 := cell_of_row v1 _ 3 _ _ _ xb
  have x4 := cell_of_row v1 _ 4 _ _ _ xb
  have x5 := cell_of_row v1 _ 5 _ _ _ xb
  have x6 := cell_of_row v1 _ 6 _ _ _ xb
  simp at x0 x1 x2 x3 x4 x5 x6
  have f0 := frozen_of_row v1 _ 0 _ _ xb
  have f1 := frozen_of_row v1 _ 1 _ _ xb
  have f2 := frozen_of_row v1 _ 2 _ _ xb
  have f3 := frozen_of_row v1 _ 3 _ _ xb
  have f4 := frozen_of_row v1 _ 4 _ _ xb
  have f5 := frozen_of_row v1 _ 5 _ _ xb
  have f6 := frozen_of_row v1 _ 6 _ _ xb
  go_upto_region 4 with (fail)
  obtain ⟨w2, h2⟩ : ∃ w2, w2 = ((v1.setCell ⟨w.heap.size + 1 + 1, 1, none⟩ (.int .i64 a)).setCell ⟨w.heap.size + 1 + 1, 2, none⟩ (.int .i64 b)) := ⟨_, rfl⟩
  have X2 : Hid (w2.heap[w.heap.size + 1 + 1]? = some (.cells #[.int .i64 k, .int .i64 a, .int .i64 b, .int .i64 0, .int .i64 0, .int .i64 0, .int .i64 0] 78 (0, 0))) := by rw [h2]; exact (heap_setCell_same _ _ 2 _ _ _ (heap_setCell_same _ _ 1 _ _ _ xb))
  have A2 : Hid (w2.heap[w.heap.size]? = some (.cells #[.int .i64 k, .int .i64 a, .int .i64 b, .int .i64 c, .int .i64 e, .int .i64 s, .int .i64 t] 98 (0, 0))) := by rw [h2]; exact ((Below.heap_setCell _ ⟨w.heap.size + 1 + 1, 2, none⟩ _ _ (by first | (simp; done) | (simp; omega))).trans ((Below.heap_setCell _ ⟨w.heap.size + 1 + 1, 1, none⟩ _ _ (by first | (simp; done) | (simp; omega))).trans ab))
  have Z2 : Hid (w2.heap[w.heap.size + 1]? = some (.cells #[.int .i64 0, .int .i64 0, .int .i64 0, .int .i64 0, .int .i64 0, .int .i64 0, .int .i64 0] 78 (0, 0))) := by rw [h2]; exact ((Below.heap_setCell _ ⟨w.heap.size + 1 + 1, 2, none⟩ _ _ (by first | (simp; done) | (simp; omega))).trans ((Below.heap_setCell _ ⟨w.heap.size + 1 + 1, 1, none⟩ _ _ (by first | (simp; done) | (simp; omega))).trans zb))
  have B2 : Hid (Below w.heap.size w w2) := by rw [h2]; exact ((bb.setCell (p := ⟨w.heap.size + 1 + 1, 1, none⟩) (by first | (simp; done) | (simp; omega)) _).setCell (p := ⟨w.heap.size + 1 + 1, 2, none⟩) (by first | (simp; done) | (simp; omega)) _)
  have S2 : Hid (w.heap.size + 1 + 1 < w2.heap.size) := (Array.getElem?_eq_some_iff.1 X2.out).1
  rw [← h2]
  clear xb ab zb bb h2
  clear x0 x1 x2 x3 x4 x5 x6 f0 f1 f2 f3 f4 f5 f6
  have q0 := cell_of_row w2 _ 0 _ _ _ A2.out
  have q1 := cell_of_row w2 _ 1 _ _ _ A2.out
  have q2 := cell_of_row w2 _ 2 _ _ _ A2.out
  have q3 := cell_of_row w2 _ 3 _ _ _ A2.out
  have q4 := cell_of_row w2 _ 4 _ _ _ A2.out
  have q5 := cell_of_row w2 _ 5 _ _ _ A2.out
  have q6 := cell_of_row w2 _ 6 _ _ _ A2.out
  simp at q0 q1 q2 q3 q4 q5 q6
  go_wp2_with fail
  refine (toCall_any c e s t _).mono ?_
  rintro r9 v2 ⟨rfl, hb⟩
  have xb := (hb.block (w.heap.size + 1 + 1) S2.out).trans X2.out
  have ab := (hb.block w.heap.size (by have := S2.out; omega)).trans A2.out
  have zb := (hb.block (w.heap.size + 1) (by have := S2.out; omega)).trans Z2.out
  have bb : Below w.heap.size w v2 := B2.out.trans (hb.mono (by have := S2.out; omega))
  clear hb
  clear q0 q1 q2 q3 q4 q5 q6
  have x0 := cell_of_row v2 _ 0 _ _ _ xb
  have x1 := cell_of_row v2 _ 1 _ _ _ xb
  have x2 := cell_of_row v2 _ 2 _ _ _ xb
  have x3 := cell_of_row v2 _ 3 _ _ _ xb
  have x4 := cell_of_row v2 _ 4 _ _ _ xb
  have x5 := cell_of_row v2 _ 5 _ _ _ xb
  have x6 := cell_of_row v2 _ 6 _ _ _ xb
  simp at x0 x1 x2 x3 x4 x5 x6
  have f0 := frozen_of_row v2 _ 0 _ _ xb
  have f1 := frozen_of_row v2 _ 1 _ _ xb
  have f2 := frozen_of_row v2 _ 2 _ _ xb
  have f3 := frozen_of_row v2 _ 3 _ _ xb
  have f4 := frozen_of_row v2 _ 4 _ _ xb
  have f5 := frozen_of_row v2 _ 5 _ _ xb
  have f6 := frozen_of_row v2 _ 6 _ _ xb
  go_upto_region 5 with (fail)
  obtain ⟨w3, h3⟩ : ∃ w3, w3 = ((((v2.setCell ⟨w.heap.size + 1 + 1, 3, none⟩ (.int .i64 c)).setCell ⟨w.heap.size + 1 + 1, 4, none⟩ (.int .i64 e)).setCell ⟨w.heap.size + 1 + 1, 5, none⟩ (.int .i64 s)).setCell ⟨w.heap.size + 1 + 1, 6, none⟩ (.int .i64 t)) := ⟨_, rfl⟩
  have X3 : Hid (w3.heap[w.heap.size + 1 + 1]? = some (.cells #[.int .i64 k, .int .i64 a, .int .i64 b, .int .i64 c, .int .i64 e, .int .i64 s, .int .i64 t] 78 (0, 0))) := by rw [h3]; exact (heap_setCell_same _ _ 6 _ _ _ (heap_setCell_same _ _ 5 _ _ _ (heap_setCell_same _ _ 4 _ _ _ (heap_setCell_same _ _ 3 _ _ _ xb))))
  have A3 : Hid (w3.heap[w.heap.size]? = some (.cells #[.int .i64 k, .int .i64 a, .int .i64 b, .int .i64 c, .int .i64 e, .int .i64 s, .int .i64 t] 98 (0, 0))) := by rw [h3]; exact ((Below.heap_setCell _ ⟨w.heap.size + 1 + 1, 6, none⟩ _ _ (by first | (simp; done) | (simp; omega))).trans ((Below.heap_setCell _ ⟨w.heap.size + 1 + 1, 5, none⟩ _ _ (by first | (simp; done) | (simp; omega))).trans ((Below.heap_setCell _ ⟨w.heap.size + 1 + 1, 4, none⟩ _ _ (by first | (simp; done) | (simp; omega))).trans ((Below.heap_setCell _ ⟨w.heap.size + 1 + 1, 3, none⟩ _ _ (by first | (simp; done) | (simp; omega))).trans ab))))
  have Z3 : Hid (w3.heap[w.heap.size + 1]? = some (.cells #[.int .i64 0, .int .i64 0, .int .i64 0, .int .i64 0, .int .i64 0, .int .i64 0, .int .i64 0] 78 (0, 0))) := by rw [h3]; exact ((Below.heap_setCell _ ⟨w.heap.size + 1 + 1, 6, none⟩ _ _ (by first | (simp; done) | (simp; omega))).trans ((Below.heap_setCell _ ⟨w.heap.size + 1 + 1, 5, none⟩ _ _ (by first | (simp; done) | (simp; omega))).trans ((Below.heap_setCell _ ⟨w.heap.size + 1 + 1, 4, none⟩ _ _ (by first | (simp; done) | (simp; omega))).trans ((Below.heap_setCell _ ⟨w.heap.size + 1 + 1, 3, none⟩ _ _ (by first | (simp; done) | (simp; omega))).trans zb))))
  have B3 : Hid (Below w.heap.size w w3) := by rw [h3]; exact ((((bb.setCell (p := ⟨w.heap.size + 1 + 1, 3, none⟩) (by first | (simp; done) | (simp; omega)) _).setCell (p := ⟨w.heap.size + 1 + 1, 4, none⟩) (by first | (simp; done) | (simp; omega)) _).setCell (p := ⟨w.heap.size + 1 + 1, 5, none⟩) (by first | (simp; done) | (simp; omega)) _).setCell (p := ⟨w.heap.size + 1 + 1, 6, none⟩) (by first | (simp; done) | (simp; omega)) _)
  have S3 : Hid (w.heap.size + 1 + 1 < w3.heap.size) := (Array.getElem?_eq_some_iff.1 X3.out).1
  rw [← h3]
  clear xb ab zb bb h3
  clear x0 x1 x2 x3 x4 x5 x6 f0 f1 f2 f3 f4 f5 f6
  have x0 := cell_of_row w3 _ 0 _ _ _ X3.out
  have x1 := cell_of_row w3 _ 1 _ _ _ X3.out
  have x2 := cell_of_row w3 _ 2 _ _ _ X3.out
  have x3 := cell_of_row w3 _ 3 _ _ _ X3.out
  have x4 := cell_of_row w3 _ 4 _ _ _ X3.out
  have x5 := cell_of_row w3 _ 5 _ _ _ X3.out
  have x6 := cell_of_row w3 _ 6 _ _ _ X3.out
  simp at x0 x1 x2 x3 x4 x5 x6
  have z0 := cell_of_row w3 _ 0 _ _ _ Z3.out
  have z1 := cell_of_row w3 _ 1 _ _ _ Z3.out
  have z2 := cell_of_row w3 _ 2 _ _ _ Z3.out
  have z3 := cell_of_row w3 _ 3 _ _ _ Z3.out
  have z4 := cell_of_row w3 _ 4 _ _ _ Z3.out
  have z5 := cell_of_row w3 _ 5 _ _ _ Z3.out
  have z6 := cell_of_row w3 _ 6 _ _ _ Z3.out
  simp at z0 z1 z2 z3 z4 z5 z6
  have f0 := frozen_of_row w3 _ 0 _ _ Z3.out
  have f1 := frozen_of_row w3 _ 1 _ _ Z3.out
  have f2 := frozen_of_row w3 _ 2 _ _ Z3.out
  have f3 := frozen_of_row w3 _ 3 _ _ Z3.out
  have f4 := frozen_of_row w3 _ 4 _ _ Z3.out
  have f5 := frozen_of_row w3 _ 5 _ _ Z3.out
  have f6 := frozen_of_row w3 _ 6 _ _ Z3.out
  go_wp2
  exact bodyPost_ret (results_cell_row rfl _ _ (w.heap.size + 1) _ _ (0, 0) _ rfl (heap_setCell_same _ _ 6 _ _ _ (heap_setCell_same _ _ 5 _ _ _ (heap_setCell_same _ _ 4 _ _ _ (heap_setCell_same _ _ 3 _ _ _ (heap_setCell_same _ _ 2 _ _ _ (heap_setCell_same _ _ 1 _ _ _ (heap_setCell_same _ _ 0 _ _ _ Z3.out))))))) Tryz.underlying78 rfl (by kernel_rfl)) rfl ⟨rfl, (((((((B3.out.setCell (p := ⟨w.heap.size + 1, 0, none⟩) (by first | (simp; done) | (simp; omega)) _).setCell (p := ⟨w.heap.size + 1, 1, none⟩) (by first | (simp; done) | (simp; omega)) _).setCell (p := ⟨w.heap.size + 1, 2, none⟩) (by first | (simp; done) | (simp; omega)) _).setCell (p := ⟨w.heap.size + 1, 3, none⟩) (by first | (simp; done) | (simp; omega)) _).setCell (p := ⟨w.heap.size + 1, 4, none⟩) (by first | (simp; done) | (simp; omega)) _).setCell (p := ⟨w.heap.size + 1, 5, none⟩) (by first | (simp; done) | (simp; omega)) _).setCell (p := ⟨w.heap.size + 1, 6, none⟩) (by first | (simp; done) | (simp; omega)) _)⟩

end Go.Proofs.YtkhphkfbjbhgaaaGreat
