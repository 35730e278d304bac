/-
  The program's small functions of chapter 5: what a thread is, what tickets are, strides, who is ready from a base. No conditions beyond that the base is one.
-/
import Derived.BigRegion
import Derived.BigQuiet
import Derived.StillTailTactics
import Derived.Test.YtckapndpefkcgaaMath5
set_option maxHeartbeats 1000000
namespace Go.Proofs.Ytckapndpefkcgaa
open Go.RowKit
set_option maxRecDepth 100000

theorem isThread_any (i : Int) (w : World) : Calls Try.prog 82 #[.int .i64 i] w fun e w' => e = .returned (.bool (okId i)) ∧ w = w' := by
  by_cases h : 0 ≤ i
  · by_cases h2 : i < 5
    · go_enter Try.func82, Try.ntmps82
      go_wp2
      go_ret
      exact ⟨ret_bool (by simp [okId, h, h2]), rfl⟩
    · go_enter Try.func82, Try.ntmps82
      go_wp2
      go_ret
      exact ⟨ret_bool (by simp [okId, h, h2]), rfl⟩
  · go_enter Try.func82, Try.ntmps82
    go_wp2
    go_ret
    exact ⟨ret_bool (by simp [okId]; omega), rfl⟩
theorem areTickets_any (i : Int) (w : World) : Calls Try.prog 83 #[.int .i64 i] w fun e w' => e = .returned (.bool (okT i)) ∧ w = w' := by
  by_cases h : 1 ≤ i
  · by_cases h2 : i ≤ 10
    · go_enter Try.func83, Try.ntmps83
      go_wp2
      go_ret
      exact ⟨ret_bool (by simp [okT, h, h2]), rfl⟩
    · go_enter Try.func83, Try.ntmps83
      go_wp2
      go_ret
      exact ⟨ret_bool (by simp [okT, h, h2]), rfl⟩
  · go_enter Try.func83, Try.ntmps83
    go_wp2
    go_ret
    exact ⟨ret_bool (by simp [okT]; omega), rfl⟩
theorem okT_iff {t : Int} : okT t = true ↔ 1 ≤ t ∧ t ≤ 10 := by unfold okT; simp
theorem strd_in {t : Int} (h : okT t = true) : 0 < strd t ∧ strd t ≤ 2520 := by
  obtain ⟨h1, h2⟩ := okT_iff.1 h
  unfold strd
  have : t = 1 ∨ t = 2 ∨ t = 3 ∨ t = 4 ∨ t = 5 ∨ t = 6 ∨ t = 7 ∨ t = 8 ∨ t = 9 ∨ t = 10 := by omega
  rcases this with rfl | rfl | rfl | rfl | rfl | rfl | rfl | rfl | rfl | rfl <;> decide
theorem strideOf_any (t : Int) (h : okT t = true) (w : World) : Calls Try.prog 84 #[.int .i64 t] w fun e w' => e = .returned (.int .i64 (strd t)) ∧ w = w' := by
  obtain ⟨h1, h2⟩ := okT_iff.1 h
  have hn : ¬ t = 0 := by omega
  have hd : (2520 : Int).tdiv t = strd t := Int.tdiv_eq_ediv_of_nonneg (by omega)
  have hw : IntKind.i64.wrap (strd t) = strd t := IntWalk.i64_in _ (by have := strd_in h; omega)
  clear h
  go_enter Try.func84, Try.ntmps84
  go_wp2
  go_ret
  exact ⟨ret_i64 rfl, rfl⟩

set_option maxHeartbeats 2000000 in
theorem isReadyFrom_any (b : Int) (x0 x1 x2 : Int) (hb : 0 ≤ b ∧ b ≤ 10000000) (w : World) :
    Calls Try.prog 94 #[.int .i64 b, .agg #[.int .i64 x0, .int .i64 x1, .int .i64 x2]] w fun e w' => e = .returned (.bool (okR b (x0, x1, x2))) ∧ Below w.heap.size w w' := by
  have HB := Lib.hid hb
  have B1 : Hid (Below w.heap.size w (w.alloc (.cells #[.int .i64 x0, .int .i64 x1, .int .i64 x2] 52))) := below_new w _
  have K1 := heap_alloc_new w (.cells #[.int .i64 x0, .int .i64 x1, .int .i64 x2] 52)
  have c0 := cell_of_row _ _ 0 _ _ _ K1; have c1 := cell_of_row _ _ 1 _ _ _ K1; have c2 := cell_of_row _ _ 2 _ _ _ K1
  simp at c0 c1 c2
  clear K1 hb
  rcases hi : okId x0 with _ | _
  · have HO : Hid (okR b (x0, x1, x2) = false) := by show _ = _; unfold okR; rw [hi]; rfl
    have IT := Lib.hid (isThread_any x0)
    rw [hi] at IT
    clear hi
    go_enter Try.func94, Try.ntmps94
    go_wp2_with fail
    refine (IT.out _).mono ?_
    rintro e w' ⟨rfl, rfl⟩
    go_wp2
    go_ret
    exact ⟨ret_bool HO.out.symm, B1.out⟩
  rcases ht : okT x1 with _ | _
  · have HO : Hid (okR b (x0, x1, x2) = false) := by show _ = _; unfold okR; rw [hi, ht]; rfl
    have IT := Lib.hid (isThread_any x0)
    have AT := Lib.hid (areTickets_any x1)
    rw [hi] at IT
    rw [ht] at AT
    clear hi ht
    go_enter Try.func94, Try.ntmps94
    go_wp2_with fail
    refine (IT.out _).mono ?_
    rintro e w' ⟨rfl, rfl⟩
    go_wp2_with fail
    refine (AT.out _).mono ?_
    rintro e w' ⟨rfl, rfl⟩
    go_wp2
    go_ret
    exact ⟨ret_bool HO.out.symm, B1.out⟩
  have IT := Lib.hid (isThread_any x0)
  have AT := Lib.hid (areTickets_any x1)
  have ST := Lib.hid (strideOf_any x1 ht)
  have SI := Lib.hid (strd_in ht)
  have HI := Lib.hid hi; have HT := Lib.hid ht
  rw [hi] at IT
  rw [ht] at AT
  clear hi ht
  by_cases hp : b ≤ x2
  · have hd : decide (b ≤ x2) = true := decide_eq_true hp
    have hw : IntKind.i64.wrap (b + strd x1) = b + strd x1 := IntWalk.i64_in _ (by have := SI.out; have := HB.out; omega)
    have HO : Hid (okR b (x0, x1, x2) = decide (x2 ≤ b + strd x1)) := by show _ = _; unfold okR; rw [HI.out, HT.out]; simp [hp]
    go_enter Try.func94, Try.ntmps94
    go_wp2_with fail
    refine (IT.out _).mono ?_
    rintro e w' ⟨rfl, rfl⟩
    go_wp2_with fail
    refine (AT.out _).mono ?_
    rintro e w' ⟨rfl, rfl⟩
    go_upto_region 3 with (fail)
    go_quiet (refine Calls.quiet_of_same ((ST.out _).mono fun e9 w9 h9 => ⟨h9.1, h9.2.symm⟩))
    go_wp2
    go_ret
    exact ⟨ret_bool HO.out.symm, below_drewN B1.out _⟩
  · have hd : decide (b ≤ x2) = false := decide_eq_false hp
    have HO : Hid (okR b (x0, x1, x2) = false) := by show _ = _; unfold okR; rw [HI.out, HT.out]; simp [hp]
    go_enter Try.func94, Try.ntmps94
    go_wp2_with fail
    refine (IT.out _).mono ?_
    rintro e w' ⟨rfl, rfl⟩
    go_wp2_with fail
    refine (AT.out _).mono ?_
    rintro e w' ⟨rfl, rfl⟩
    go_upto_region 3 with (fail)
    go_quiet (fail)
    go_wp2
    go_ret
    exact ⟨ret_bool HO.out.symm, below_drewN B1.out _⟩

end Go.Proofs.Ytckapndpefkcgaa
