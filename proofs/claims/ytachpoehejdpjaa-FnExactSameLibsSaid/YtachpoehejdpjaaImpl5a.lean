/-
  The program's small functions of chapter 5: what a thread is, what tickets are, strides, who is ready from a base. No conditions beyond that the base is one.
-/
import Derived.Test.YtachpoehejdpjaaMath5
import Derived.BigRegion
import Derived.BigQuiet
import Derived.StillTailTactics
namespace Go.Proofs.Ytachpoehejdpjaa
open Go.RowKit
set_option maxRecDepth 100000

theorem isThread_any (i : Int) (w : World) : Calls Try.prog 42 #[.int .i64 i] w fun e w' => e = .returned (.bool (okId i)) ∧ w = w' := by
  by_cases h : 0 ≤ i
  · by_cases h2 : i < 5
    · go_enter Try.func42, Try.ntmps42
      go_wp2
      go_ret
      exact ⟨ret_bool (by simp [okId, h, h2]), rfl⟩
    · go_enter Try.func42, Try.ntmps42
      go_wp2
      go_ret
      exact ⟨ret_bool (by simp [okId, h, h2]), rfl⟩
  · go_enter Try.func42, Try.ntmps42
    go_wp2
    go_ret
    exact ⟨ret_bool (by simp [okId]; omega), rfl⟩
theorem areTickets_any (i : Int) (w : World) : Calls Try.prog 68 #[.int .i64 i] w fun e w' => e = .returned (.bool (okT i)) ∧ w = w' := by
  by_cases h : 1 ≤ i
  · by_cases h2 : i ≤ 10
    · go_enter Try.func68, Try.ntmps68
      go_wp2
      go_ret
      exact ⟨ret_bool (by simp [okT, h, h2]), rfl⟩
    · go_enter Try.func68, Try.ntmps68
      go_wp2
      go_ret
      exact ⟨ret_bool (by simp [okT, h, h2]), rfl⟩
  · go_enter Try.func68, Try.ntmps68
    go_wp2
    go_ret
    exact ⟨ret_bool (by simp [okT]; omega), rfl⟩
theorem okT_iff {t : Int} : okT t = true ↔ 1 ≤ t ∧ t ≤ 10 := by unfold okT; simp
theorem strd_in {t : Int} (h : okT t = true) : 0 < strd t ∧ strd t ≤ 2520 := by
  obtain ⟨h1, h2⟩ := okT_iff.1 h
  unfold strd
  have : t = 1 ∨ t = 2 ∨ t = 3 ∨ t = 4 ∨ t = 5 ∨ t = 6 ∨ t = 7 ∨ t = 8 ∨ t = 9 ∨ t = 10 := by omega
  rcases this with rfl | rfl | rfl | rfl | rfl | rfl | rfl | rfl | rfl | rfl <;> decide
end Go.Proofs.Ytachpoehejdpjaa
