/-
  StrideOf: the model's, the program's, and the law's walk. No conditions.
-/
import Derived.Test.YtckapndpefkcgaaSpec5a
import Derived.Test.YtckapndpefkcgaaImpl5a
set_option maxHeartbeats 1000000
namespace Go.Proofs.Ytckapndpefkcgaa
open Go.RowKit
set_option maxRecDepth 100000

def stride5 (t : Int) : Int × Int := if okT t = true then (0, strd t) else (3, 0)

theorem specStrideOf_any (t : Int) (w : World) : Calls Try.prog 39 #[.int .i64 t] w fun e w' => e = .returned (.agg #[.int .i64 (stride5 t).1, .int .i64 (stride5 t).2]) ∧ Below w.heap.size w w' := by
  have HN := Lib.hid (heap_alloc_new w (.cells #[.int .i64 0, .int .i64 0] 64))
  have HB := Lib.hid (below_new w (.cells #[.int .i64 0, .int .i64 0] 64))
  rcases ht : okT t with _ | _
  · have HS : Hid (stride5 t = (3, 0)) := by show _ = _; unfold stride5; rw [ht]; rfl
    have AT := Lib.hid (l5Tickets_any t)
    rw [ht] at AT
    clear ht
    go_enter Try.func39, Try.ntmps39
    go_wp2_with fail
    refine (AT.out _).mono ?_
    rintro e w' ⟨rfl, rfl⟩
    go_wp2
    refine bodyPost_ret (results_cell_row rfl _ _ _ _ _ (0, 0) _ rfl (heap_alloc_new w _) Try.underlying64 rfl (by kernel_rfl)) rfl ?_
    exact ⟨by rw [HS.out], below_new w _⟩
  · have HS : Hid (stride5 t = (0, strd t)) := by show _ = _; unfold stride5; rw [ht]; rfl
    have AT := Lib.hid (l5Tickets_any t)
    rw [ht] at AT
    have SI := Lib.hid (strd_in ht)
    obtain ⟨t1, t2⟩ := okT_iff.1 ht
    have tn : ¬ t = 0 := by omega
    have hd : (2520 : Int).tdiv t = strd t := Int.tdiv_eq_ediv_of_nonneg (by omega)
    have hw : IntKind.i64.wrap (strd t) = strd t := IntWalk.i64_in _ (by have := SI.out; omega)
    clear ht t1 t2
    go_enter Try.func39, Try.ntmps39
    go_wp2_with fail
    refine (AT.out _).mono ?_
    rintro e w' ⟨rfl, rfl⟩
    go_wp2
    refine bodyPost_ret (results_cell_row rfl _ _ _ _ _ (0, 0) _ rfl (heap_alloc_new w _) Try.underlying64 rfl (by kernel_rfl)) rfl ?_
    exact ⟨by rw [HS.out], below_new w _⟩

theorem implStrideOf_any (t : Int) (w : World) : Calls Try.prog 38 #[.int .i64 t] w fun e w' => e = .returned (.agg #[.int .i64 (stride5 t).1, .int .i64 (stride5 t).2]) ∧ Below w.heap.size w w' := by
  have HN := Lib.hid (heap_alloc_new w (.cells #[.int .i64 0, .int .i64 0] 64))
  have HB := Lib.hid (below_new w (.cells #[.int .i64 0, .int .i64 0] 64))
  rcases ht : okT t with _ | _
  · have HS : Hid (stride5 t = (3, 0)) := by show _ = _; unfold stride5; rw [ht]; rfl
    have AT := Lib.hid (areTickets_any t)
    rw [ht] at AT
    clear ht
    go_enter Try.func38, Try.ntmps38
    go_wp2_with fail
    refine (AT.out _).mono ?_
    rintro e w' ⟨rfl, rfl⟩
    go_wp2
    refine bodyPost_ret (results_cell_row rfl _ _ _ _ _ (0, 0) _ rfl (heap_alloc_new w _) Try.underlying64 rfl (by kernel_rfl)) rfl ?_
    exact ⟨by rw [HS.out], below_new w _⟩
  · have HS : Hid (stride5 t = (0, strd t)) := by show _ = _; unfold stride5; rw [ht]; rfl
    have AT := Lib.hid (areTickets_any t)
    rw [ht] at AT
    have ST := Lib.hid (strideOf_any t ht)
    clear ht
    go_enter Try.func38, Try.ntmps38
    go_wp2_with fail
    refine (AT.out _).mono ?_
    rintro e w' ⟨rfl, rfl⟩
    go_wp2_with fail
    refine (ST.out _).mono ?_
    rintro e w' ⟨rfl, rfl⟩
    go_wp2
    refine bodyPost_ret (results_cell_row rfl _ _ _ _ _ (0, 0) _ rfl (heap_alloc_new w _) Try.underlying64 rfl (by kernel_rfl)) rfl ?_
    exact ⟨by rw [HS.out], below_new w _⟩

end Go.Proofs.Ytckapndpefkcgaa
