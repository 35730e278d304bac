/-
  The laws' helpers on kernels and on answers of chapter 3: copy, compare, mark, look again: what each does. No conditions beyond that the lists can be read.
-/
import Derived.Test.YtaemegkdmbhpnaaKit3
import Derived.Test.YtaemegkdmbhpnaaInts
import Derived.Test.YtaemegkdmbhpnaaBools
import Derived.Test.YtaemegkdmbhpnaaKer3
namespace Go.Proofs.Ytaemegkdmbhpnaa
open Go.RowKit

/-- eqKernel of two kernels that read alike: true. -/
theorem eqKernel_same (lo hi lo' hi' : Nat) (A1 : Option Addr) (n1 c1 : Nat) (A2 : Option Addr) (n2 c2 : Nat) (A3 : Option Addr) (n3 c3 : Nat) (A1' : Option Addr) (c1' : Nat) (A2' : Option Addr) (c2' : Nat) (A3' : Option Addr) (c3' : Nat) (t r : Int) (K : Ker) (w : World) (hn1 : n1 * 8 ≤ 140737488351232) (hn2 : n2 * 8 ≤ 140737488351232) (hn3 : n3 * 32 ≤ 140737488351232)
    (h : KRead w lo hi A1 n1 A2 n2 A3 n3 K) (h' : KRead w lo' hi' A1' n1 A2' n2 A3' n3 K) :
    Calls Try.prog 14 #[.agg #[.slice A1 n1 c1, .slice A2 n2 c2, .slice A3 n3 c3, .int .i64 t, .int .i64 r], .agg #[.slice A1' n1 c1', .slice A2' n2 c2', .slice A3' n3 c3', .int .i64 t, .int .i64 r]] w fun e w' => e = .returned (.bool true) ∧ Below w.heap.size w w' := by
  have K1 : Hid (((w.alloc (.cells #[.slice A1 n1 c1, .slice A2 n2 c2, .slice A3 n3 c3, .int .i64 t, .int .i64 r] 33)).alloc (.cells #[.slice A1' n1 c1', .slice A2' n2 c2', .slice A3' n3 c3', .int .i64 t, .int .i64 r] 33)).heap[w.heap.size]? = some (.cells #[.slice A1 n1 c1, .slice A2 n2 c2, .slice A3 n3 c3, .int .i64 t, .int .i64 r] 33 (0, 0))) := heap_alloc2_old w _ _
  have K2 : Hid (((w.alloc (.cells #[.slice A1 n1 c1, .slice A2 n2 c2, .slice A3 n3 c3, .int .i64 t, .int .i64 r] 33)).alloc (.cells #[.slice A1' n1 c1', .slice A2' n2 c2', .slice A3' n3 c3', .int .i64 t, .int .i64 r] 33)).heap[w.heap.size + 1]? = some (.cells #[.slice A1' n1 c1', .slice A2' n2 c2', .slice A3' n3 c3', .int .i64 t, .int .i64 r] 33 (0, 0))) := heap_alloc2_new w _ _
  have B2 : Hid (Below w.heap.size w ((w.alloc (.cells #[.slice A1 n1 c1, .slice A2 n2 c2, .slice A3 n3 c3, .int .i64 t, .int .i64 r] 33)).alloc (.cells #[.slice A1' n1 c1', .slice A2' n2 c2', .slice A3' n3 c3', .int .i64 t, .int .i64 r] 33))) := ((Below.refl _ _).alloc (Nat.le_refl _) _).alloc (by simp) _
  have Q1 : Hid (∀ W, Below (w.heap.size + 2) ((w.alloc (.cells #[.slice A1 n1 c1, .slice A2 n2 c2, .slice A3 n3 c3, .int .i64 t, .int .i64 r] 33)).alloc (.cells #[.slice A1' n1 c1', .slice A2' n2 c2', .slice A3' n3 c3', .int .i64 t, .int .i64 r] 33)) W → W.cell? ⟨w.heap.size, 0, none⟩ = some (.slice A1 n1 c1) ∧ W.cell? ⟨w.heap.size, 1, none⟩ = some (.slice A2 n2 c2) ∧ W.cell? ⟨w.heap.size, 2, none⟩ = some (.slice A3 n3 c3) ∧ W.cell? ⟨w.heap.size, 3, none⟩ = some (.int .i64 t) ∧ W.cell? ⟨w.heap.size, 4, none⟩ = some (.int .i64 r)) := fun W hB => ⟨cell_of_row W _ 0 _ _ _ ((hB.block _ (by simp; try omega)).trans K1.out), cell_of_row W _ 1 _ _ _ ((hB.block _ (by simp; try omega)).trans K1.out), cell_of_row W _ 2 _ _ _ ((hB.block _ (by simp; try omega)).trans K1.out), cell_of_row W _ 3 _ _ _ ((hB.block _ (by simp; try omega)).trans K1.out), cell_of_row W _ 4 _ _ _ ((hB.block _ (by simp; try omega)).trans K1.out)⟩
  have Q2 : Hid (∀ W, Below (w.heap.size + 2) ((w.alloc (.cells #[.slice A1 n1 c1, .slice A2 n2 c2, .slice A3 n3 c3, .int .i64 t, .int .i64 r] 33)).alloc (.cells #[.slice A1' n1 c1', .slice A2' n2 c2', .slice A3' n3 c3', .int .i64 t, .int .i64 r] 33)) W → W.cell? ⟨(w.heap.size + 1), 0, none⟩ = some (.slice A1' n1 c1') ∧ W.cell? ⟨(w.heap.size + 1), 1, none⟩ = some (.slice A2' n2 c2') ∧ W.cell? ⟨(w.heap.size + 1), 2, none⟩ = some (.slice A3' n3 c3') ∧ W.cell? ⟨(w.heap.size + 1), 3, none⟩ = some (.int .i64 t) ∧ W.cell? ⟨(w.heap.size + 1), 4, none⟩ = some (.int .i64 r)) := fun W hB => ⟨cell_of_row W _ 0 _ _ _ ((hB.block _ (by simp; try omega)).trans K2.out), cell_of_row W _ 1 _ _ _ ((hB.block _ (by simp; try omega)).trans K2.out), cell_of_row W _ 2 _ _ _ ((hB.block _ (by simp; try omega)).trans K2.out), cell_of_row W _ 3 _ _ _ ((hB.block _ (by simp; try omega)).trans K2.out), cell_of_row W _ 4 _ _ _ ((hB.block _ (by simp; try omega)).trans K2.out)⟩
  have R := Lib.hid (h.lt.below B2.out (Nat.min_le_right _ _))
  have R' := Lib.hid (h'.lt.below B2.out (Nat.min_le_right _ _))
  have H0 : Hid (Below (w.heap.size + 2) ((w.alloc (.cells #[.slice A1 n1 c1, .slice A2 n2 c2, .slice A3 n3 c3, .int .i64 t, .int .i64 r] 33)).alloc (.cells #[.slice A1' n1 c1', .slice A2' n2 c2', .slice A3' n3 c3', .int .i64 t, .int .i64 r] 33)) ((w.alloc (.cells #[.slice A1 n1 c1, .slice A2 n2 c2, .slice A3 n3 c3, .int .i64 t, .int .i64 r] 33)).alloc (.cells #[.slice A1' n1 c1', .slice A2' n2 c2', .slice A3' n3 c3', .int .i64 t, .int .i64 r] 33))) := Below.refl _ _
  have S2 : Hid (((w.alloc (.cells #[.slice A1 n1 c1, .slice A2 n2 c2, .slice A3 n3 c3, .int .i64 t, .int .i64 r] 33)).alloc (.cells #[.slice A1' n1 c1', .slice A2' n2 c2', .slice A3' n3 c3', .int .i64 t, .int .i64 r] 33)).heap.size = w.heap.size + 2) := by show _ = _; simp
  clear h h' K1 K2
  go_enter Try.func14, Try.ntmps14
  go_wp2_with fail
  refine (eqInt64S_same lo (min hi w.heap.size) lo' (min hi' w.heap.size) A1 A1' n1 c1 c1' (gi K.os) _ (by omega) (R.out.below H0.out (by omega)).2.1 (R'.out.below H0.out (by omega)).2.1).mono ?_
  rintro e w1 ⟨rfl, hb⟩
  have sz := H0.out.size
  have sz2 := S2.out
  have Hw1 := Lib.hid (H0.out.trans (hb.mono (by omega)))
  obtain ⟨x0, x1, x2, x3, x4⟩ := Q1.out _ Hw1.out
  obtain ⟨y0, y1, y2, y3, y4⟩ := Q2.out _ Hw1.out
  clear hb sz sz2
  go_wp2_with fail
  refine (eqBoolS_same lo (min hi w.heap.size) lo' (min hi' w.heap.size) A2 A2' n2 c2 c2' (gb K.al) _ (by omega) (R.out.below Hw1.out (by omega)).2.2.1 (R'.out.below Hw1.out (by omega)).2.2.1).mono ?_
  rintro e w2 ⟨rfl, hb⟩
  have sz := Hw1.out.size
  have sz2 := S2.out
  have Hw2 := Lib.hid (Hw1.out.trans (hb.mono (by omega)))
  obtain ⟨x0, x1, x2, x3, x4⟩ := Q1.out _ Hw2.out
  obtain ⟨y0, y1, y2, y3, y4⟩ := Q2.out _ Hw2.out
  clear hb sz sz2
  go_wp2_with fail
  refine (eqAccountS_same lo (min hi w.heap.size) lo' (min hi' w.heap.size) A3 A3' n3 c3 c3' (gi K.ac) _ (by omega) (R.out.below Hw2.out (by omega)).2.2.2 (R'.out.below Hw2.out (by omega)).2.2.2).mono ?_
  rintro e w3 ⟨rfl, hb⟩
  have sz := Hw2.out.size
  have sz2 := S2.out
  have Hw3 := Lib.hid (Hw2.out.trans (hb.mono (by omega)))
  obtain ⟨x0, x1, x2, x3, x4⟩ := Q1.out _ Hw3.out
  obtain ⟨y0, y1, y2, y3, y4⟩ := Q2.out _ Hw3.out
  clear hb sz sz2
  go_wp2
  go_ret
  exact ⟨rfl, B2.out.trans (Hw3.out.mono (by omega))⟩

end Go.Proofs.Ytaemegkdmbhpnaa
