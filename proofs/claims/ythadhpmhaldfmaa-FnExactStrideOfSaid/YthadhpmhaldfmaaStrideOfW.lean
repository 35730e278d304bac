/-
  StrideOf: the model's, the program's, and the law's walk. No conditions.
-/
import Derived.Test.YthadhpmhaldfmaaSpec5a
import Derived.Test.YthadhpmhaldfmaaImpl5a
namespace Go.Proofs.Ythadhpmhaldfmaa
open Go.RowKit
set_option maxRecDepth 100000

def stride5 (t : Int) : Int × Int := if okT t = true then (0, strd t) else (3, 0)

theorem specStrideOf_any (t : Int) (w : World) : Calls Try.prog 42 #[.int .i64 t] w fun e w' => e = .returned (.agg #[.int .i64 (stride5 t).1, .int .i64 (stride5 t).2]) ∧ Below w.heap.size w w' := by
  have HN := Lib.hid (heap_alloc_new w (.cells #[.int .i64 0, .int .i64 0] 57))
  have HB := Lib.hid (below_new w (.cells #[.int .i64 0, .int .i64 0] 57))
  rcases ht : okT t with _ | _
  · have HS : Hid (stride5 t = (3, 0)) := by show _ = _; unfold stride5; rw [ht]; rfl
    have AT := Lib.hid (l5Tickets_any t)
    rw [ht] at AT
    clear ht
    go_enter Try.func42, Try.ntmps42
    go_wp2_with fail
    refine (AT.out _).mono ?_
    rintro e w' ⟨rfl, rfl⟩
    go_wp2
    refine bodyPost_ret (results_cell_row rfl _ _ _ _ _ (0, 0) _ rfl (heap_alloc_new w _) Try.underlying57 rfl (by kernel_rfl)) rfl ?_
    exact ⟨by rw [HS.out], below_new w _⟩
  · have HS : Hid (stride5 t = (0, strd t)) := by show _ = _; unfold stride5; rw [ht]; rfl
    have AT := Lib.hid (l5Tickets_any t)
    rw [ht] at AT
    have SI := Lib.hid (strd_in ht)
    obtain ⟨t1, t2⟩ := okT_iff.1 ht
    have tn : ¬ t = 0 := by omega
    have hd : (2520 : Int).tdiv t = strd t := Int.tdiv_eq_ediv_of_nonneg (by omega)
    have hw : IntKind.i64.wrap (strd t) = strd t := IntWalk.i64_in _ (by have := SI.out; omega)
    clear ht t1 t2
    go_enter Try.func42, Try.ntmps42
    go_wp2_with fail
    refine (AT.out _).mono ?_
    rintro e w' ⟨rfl, rfl⟩
    go_wp2
    refine bodyPost_ret (results_cell_row rfl _ _ _ _ _ (0, 0) _ rfl (heap_alloc_new w _) Try.underlying57 rfl (by kernel_rfl)) rfl ?_
    exact ⟨by rw [HS.out], below_new w _⟩

theorem implStrideOf_any (t : Int) (w : World) : Calls Try.prog 41 #[.int .i64 t] w fun e w' => e = .returned (.agg #[.int .i64 (stride5 t).1, .int .i64 (stride5 t).2]) ∧ Below w.heap.size w w' := by
  have HN := Lib.hid (heap_alloc_new w (.cells #[.int .i64 0, .int .i64 0] 57))
  have HB := Lib.hid (below_new w (.cells #[.int .i64 0, .int .i64 0] 57))
  rcases ht : okT t with _ | _
  · have HS : Hid (stride5 t = (3, 0)) := by show _ = _; unfold stride5; rw [ht]; rfl
    have AT := Lib.hid (areTickets_any t)
    rw [ht] at AT
    clear ht
    go_enter Try.func41, Try.ntmps41
    go_wp2_with fail
    refine (AT.out _).mono ?_
    rintro e w' ⟨rfl, rfl⟩
    go_wp2
    refine bodyPost_ret (results_cell_row rfl _ _ _ _ _ (0, 0) _ rfl (heap_alloc_new w _) Try.underlying57 rfl (by kernel_rfl)) rfl ?_
    exact ⟨by rw [HS.out], below_new w _⟩
  · have HS : Hid (stride5 t = (0, strd t)) := by show _ = _; unfold stride5; rw [ht]; rfl
    have AT := Lib.hid (areTickets_any t)
    rw [ht] at AT
    have ST := Lib.hid (strideOf_any t ht)
    clear ht
    go_enter Try.func41, Try.ntmps41
    go_wp2_with fail
    refine (AT.out _).mono ?_
    rintro e w' ⟨rfl, rfl⟩
    go_wp2_with fail
    refine (ST.out _).mono ?_
    rintro e w' ⟨rfl, rfl⟩
    go_wp2
    refine bodyPost_ret (results_cell_row rfl _ _ _ _ _ (0, 0) _ rfl (heap_alloc_new w _) Try.underlying57 rfl (by kernel_rfl)) rfl ?_
    exact ⟨by rw [HS.out], below_new w _⟩

theorem eqIntResult5_same (a b : Int) (w : World) :
    Calls Try.prog 57 #[.agg #[.int .i64 a, .int .i64 b], .agg #[.int .i64 a, .int .i64 b]] w fun e w' => e = .returned (.bool true) ∧ Below w.heap.size w w' := by
  have B2 : Hid (∀ o o', Below w.heap.size w ((w.alloc o).alloc o')) := fun o o' => ((Below.refl _ _).alloc (Nat.le_refl _) o).alloc (by simp) o'
  go_enter Try.func57, Try.ntmps57
  go_wp2
  go_ret
  exact ⟨rfl, B2.out _ _⟩

set_option maxHeartbeats 1000000 in
theorem walkStrideOf (t : Int) (w : World) : Calls Try.prog 6 #[.int .i64 t] w fun e w' => e = .returned (.bool true) ∧ Below w.heap.size w w' := by
  have SP := Lib.hid (specStrideOf_any t)
  have IP := Lib.hid (implStrideOf_any t)
  generalize (stride5 t).1 = q at *
  generalize (stride5 t).2 = v at *
  go_enter Try.func6, Try.ntmps6
  go_wp2_with fail
  refine (SP.out _).mono ?_
  rintro e w1 ⟨rfl, hb⟩
  obtain ⟨w2, hw2⟩ : ∃ w2, w2 = w1.alloc (.cells #[.int .i64 q, .int .i64 v] 57) := ⟨_, rfl⟩
  have X2 : Hid (w2.heap[w1.heap.size]? = some (.cells #[.int .i64 q, .int .i64 v] 57 (0, 0))) := by show _ = _; rw [hw2]; exact heap_alloc_new w1 _
  have R2 : Hid (Below w.heap.size w w2) := by rw [hw2]; exact hb.alloc hb.size _
  have Z2 : Hid (w2.heap.size = w1.heap.size + 1) := by show _ = _; rw [hw2]; simp
  have HW2 := Lib.hid hw2
  clear hw2 hb
  go_upto_region 2 with (fail)
  rw [← HW2.out]
  clear HW2
  go_wp2_with fail
  refine (IP.out _).mono ?_
  rintro e w3 ⟨rfl, hb⟩
  have X3 := (hb.block w1.heap.size (by have := Z2.out; omega)).trans X2.out
  have R3 := Lib.hid (R2.out.trans (hb.mono R2.out.size))
  have Z3 := Lib.hid (show w1.heap.size < w3.heap.size by have := hb.size; have := Z2.out; omega)
  obtain ⟨w4, hw4⟩ : ∃ w4, w4 = w3.alloc (.cells #[.int .i64 q, .int .i64 v] 57) := ⟨_, rfl⟩
  have X4 : w4.heap[w3.heap.size]? = some (.cells #[.int .i64 q, .int .i64 v] 57 (0, 0)) := by rw [hw4]; exact heap_alloc_new w3 _
  have Y4 : w4.heap[w1.heap.size]? = some (.cells #[.int .i64 q, .int .i64 v] 57 (0, 0)) := by rw [hw4]; exact (Below.heap_alloc _ _ _ Z3.out).trans X3
  have R4 : Hid (Below w.heap.size w w4) := by rw [hw4]; exact R3.out.alloc R3.out.size _
  have x0 := cell_of_row w4 _ 0 _ _ _ X4; have x1 := cell_of_row w4 _ 1 _ _ _ X4; have y0 := cell_of_row w4 _ 0 _ _ _ Y4; have y1 := cell_of_row w4 _ 1 _ _ _ Y4
  simp at x0 x1 y0 y1
  have HW4 := Lib.hid hw4
  clear hw4 hb X3 X4 Y4
  go_upto_region 3 with (fail)
  rw [← HW4.out]
  clear HW4
  go_wp2_with fail
  refine (eqIntResult5_same q v _).mono ?_
  rintro e w5 ⟨rfl, hb⟩
  have R5 := Lib.hid (R4.out.trans (hb.mono R4.out.size))
  clear hb
  go_wp2
  go_ret
  exact ⟨rfl, R5.out⟩

end Go.Proofs.Ythadhpmhaldfmaa
