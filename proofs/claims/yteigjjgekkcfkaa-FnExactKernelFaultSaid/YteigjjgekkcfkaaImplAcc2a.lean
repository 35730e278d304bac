/-
  The program's small parts of chapter 2: a counter that raises and lowers itself within its bounds, and a ledger of four such counters. No conditions.
-/
import Derived.Test.YteigjjgekkcfkaaMath2
import Derived.Test.YteigjjgekkcfkaaSpec1
import Derived.Deep.RegionHeld3
import Derived.BigQuiet
namespace Go.Proofs.Yteigjjgekkcfkaa
open Go.RowKit

theorem fits_any (c m : Int) (w : World) :
    Calls Try.prog 78 #[.agg #[.int .i64 c, .int .i64 m]] w fun e w' => e = .returned (.bool (inR 0 m c)) ∧ Below w.heap.size w w' := by
  have B1 := Lib.hid (below_new w (.cells #[.int .i64 c, .int .i64 m] 117))
  by_cases h1 : 0 ≤ c
  · by_cases h2 : c ≤ m
    · go_enter Try.func78, Try.ntmps78
      go_wp2
      go_ret
      exact ⟨ret_bool (inR_true ⟨h1, h2⟩).symm, B1.out⟩
    · go_enter Try.func78, Try.ntmps78
      go_wp2
      go_ret
      exact ⟨ret_bool (inR_false (by omega)).symm, B1.out⟩
  · go_enter Try.func78, Try.ntmps78
    go_wp2
    go_ret
    exact ⟨ret_bool (inR_false (by omega)).symm, B1.out⟩

theorem ticksOf_any (c : Int) (w : World) :
    Calls Try.prog 105 #[.int .i64 c] w fun e w' => e = .returned (.agg #[.int .i64 c, .int .i64 1000000]) ∧ Below w.heap.size w w' := by
  have B1 : Hid (∀ o, Below w.heap.size w (w.alloc o)) := fun o => below_new w o
  go_enter Try.func105, Try.ntmps105
  go_wp2
  go_returns
  exact ⟨rfl, B1.out _⟩

theorem account_any (u x g d m1 m2 m3 m4 : Int) (w : World) :
    Calls Try.prog 139 #[.agg #[.int .i64 u, .int .i64 m1, .int .i64 x, .int .i64 m2, .int .i64 g, .int .i64 m3, .int .i64 d, .int .i64 m4]] w fun e w' => e = .returned (.agg #[.int .i64 u, .int .i64 x, .int .i64 g, .int .i64 d]) ∧ Below w.heap.size w w' := by
  have B2 : Hid (∀ o o', Below w.heap.size w ((w.alloc o).alloc o')) := fun o o' => ((Below.refl _ _).alloc (Nat.le_refl _) o).alloc (by simp) o'
  go_enter Try.func139, Try.ntmps139
  go_wp2
  go_returns
  exact ⟨rfl, B2.out _ _⟩

theorem raise_room (g i : Nat) (c m : Int) (w : World) (h : c < m) (hb : m ≤ 1000000) (q0 : w.cell? ⟨g, i, none⟩ = some (.int .i64 c)) (q1 : w.cell? ⟨g, i + 1, none⟩ = some (.int .i64 m)) (f0 : w.frozen? ⟨g, i, none⟩ = false) (hl : -1 ≤ c) :
    Calls Try.prog 138 #[.pointer (some ⟨g, i, none⟩)] w fun e w' => e = .returned (.bool true) ∧ ∃ n, w' = (w.setCell ⟨g, i, none⟩ (.int .i64 (c + 1))).drewN n := by
  go_enter Try.func138, Try.ntmps138
  go_wp2_with fail
  go_region
  go_wp2
  go_ret
  exact ⟨rfl, _, rfl⟩

theorem raise_full (g i : Nat) (c m : Int) (w : World) (h : m ≤ c) (q0 : w.cell? ⟨g, i, none⟩ = some (.int .i64 c)) (q1 : w.cell? ⟨g, i + 1, none⟩ = some (.int .i64 m)) :
    Calls Try.prog 138 #[.pointer (some ⟨g, i, none⟩)] w fun e w' => e = .returned (.bool false) ∧ ∃ n, w' = w.drewN n := by
  go_enter Try.func138, Try.ntmps138
  go_wp2_with fail
  go_region
  go_wp2
  go_ret
  exact ⟨rfl, _, rfl⟩

theorem lower_any (g i : Nat) (c : Int) (w : World) (h : 0 < c) (hb : c ≤ 3) (q0 : w.cell? ⟨g, i, none⟩ = some (.int .i64 c)) (f0 : w.frozen? ⟨g, i, none⟩ = false) :
    Calls Try.prog 142 #[.pointer (some ⟨g, i, none⟩)] w fun e w' => e = .returned (.bool true) ∧ ∃ n, w' = (w.setCell ⟨g, i, none⟩ (.int .i64 (c - 1))).drewN n := by
  go_enter Try.func142, Try.ntmps142
  go_wp2
  go_ret
  exact ⟨rfl, 0, rfl⟩

theorem lower_none (g i : Nat) (c : Int) (w : World) (h : c ≤ 0) (q0 : w.cell? ⟨g, i, none⟩ = some (.int .i64 c)) :
    Calls Try.prog 142 #[.pointer (some ⟨g, i, none⟩)] w fun e w' => e = .returned (.bool false) ∧ ∃ n, w' = w.drewN n := by
  go_enter Try.func142, Try.ntmps142
  go_wp2
  go_ret
  exact ⟨rfl, 0, rfl⟩

theorem add_room (g i : Nat) (c m : Int) (w : World) (h : c < m) (hb : m ≤ 1000000) (q0 : w.cell? ⟨g, i, none⟩ = some (.int .i64 c)) (q1 : w.cell? ⟨g, i + 1, none⟩ = some (.int .i64 m)) (f0 : w.frozen? ⟨g, i, none⟩ = false) (hl : -1 ≤ c) :
    Calls Try.prog 133 #[.pointer (some ⟨g, i, none⟩)] w fun e w' => e = .returned (.int .i64 0) ∧ ∃ n, w' = (w.setCell ⟨g, i, none⟩ (.int .i64 (c + 1))).drewN n := by
  have C := Lib.hid (raise_room g i c m w h hb q0 q1 f0 hl)
  go_enter Try.func133, Try.ntmps133
  go_wp2_with (go_at_call 138; refine C.out.mono ?_; rintro e w' ⟨rfl, n, rfl⟩)
  go_ret
  exact ⟨rfl, n, rfl⟩

theorem add_full (g i : Nat) (c m : Int) (w : World) (h : m ≤ c) (q0 : w.cell? ⟨g, i, none⟩ = some (.int .i64 c)) (q1 : w.cell? ⟨g, i + 1, none⟩ = some (.int .i64 m)) :
    Calls Try.prog 133 #[.pointer (some ⟨g, i, none⟩)] w fun e w' => e = .returned (.int .i64 8) ∧ ∃ n, w' = w.drewN n := by
  have C := Lib.hid (raise_full g i c m w h q0 q1)
  go_enter Try.func133, Try.ntmps133
  go_wp2_with (go_at_call 138; refine C.out.mono ?_; rintro e w' ⟨rfl, n, rfl⟩)
  go_ret
  exact ⟨rfl, n, rfl⟩

theorem punish_room (g i : Nat) (c m : Int) (w : World) (h : c < m) (hb : m ≤ 1000000) (q0 : w.cell? ⟨g, i, none⟩ = some (.int .i64 c)) (q1 : w.cell? ⟨g, i + 1, none⟩ = some (.int .i64 m)) (f0 : w.frozen? ⟨g, i, none⟩ = false) (hl : -1 ≤ c) :
    Calls Try.prog 141 #[.pointer (some ⟨g, i, none⟩)] w fun e w' => e = .returned (.bool false) ∧ ∃ n, w' = (w.setCell ⟨g, i, none⟩ (.int .i64 (c + 1))).drewN n := by
  have C := Lib.hid (raise_room g i c m w h hb q0 q1 f0 hl)
  go_enter Try.func141, Try.ntmps141
  go_wp2_with (go_at_call 138; refine C.out.mono ?_; rintro e w' ⟨rfl, n, rfl⟩)
  go_ret
  exact ⟨rfl, n, rfl⟩

theorem punish_full (g i : Nat) (c m : Int) (w : World) (h : m ≤ c) (q0 : w.cell? ⟨g, i, none⟩ = some (.int .i64 c)) (q1 : w.cell? ⟨g, i + 1, none⟩ = some (.int .i64 m)) :
    Calls Try.prog 141 #[.pointer (some ⟨g, i, none⟩)] w fun e w' => e = .returned (.bool true) ∧ ∃ n, w' = w.drewN n := by
  have C := Lib.hid (raise_full g i c m w h q0 q1)
  go_enter Try.func141, Try.ntmps141
  go_wp2_with (go_at_call 138; refine C.out.mono ?_; rintro e w' ⟨rfl, n, rfl⟩)
  go_ret
  exact ⟨rfl, n, rfl⟩

theorem skipm_any (g i : Nat) (c : Int) (w : World) (h : 0 < c) (hb : c ≤ 3) (q0 : w.cell? ⟨g, i, none⟩ = some (.int .i64 c)) (f0 : w.frozen? ⟨g, i, none⟩ = false) :
    Calls Try.prog 140 #[.pointer (some ⟨g, i, none⟩)] w fun e w' => e = .returned (.int .i64 0) ∧ ∃ n, w' = (w.setCell ⟨g, i, none⟩ (.int .i64 (c - 1))).drewN n := by
  have C := Lib.hid (lower_any g i c w h hb q0 f0)
  go_enter Try.func140, Try.ntmps140
  go_wp2_with (go_at_call 142; refine C.out.mono ?_; rintro e w' ⟨rfl, n, rfl⟩)
  go_ret
  exact ⟨rfl, n, rfl⟩

theorem skipm_none (g i : Nat) (c : Int) (w : World) (h : c ≤ 0) (q0 : w.cell? ⟨g, i, none⟩ = some (.int .i64 c)) :
    Calls Try.prog 140 #[.pointer (some ⟨g, i, none⟩)] w fun e w' => e = .returned (.int .i64 4) ∧ ∃ n, w' = w.drewN n := by
  have C := Lib.hid (lower_none g i c w h q0)
  go_enter Try.func140, Try.ntmps140
  go_wp2_with (go_at_call 142; refine C.out.mono ?_; rintro e w' ⟨rfl, n, rfl⟩)
  go_ret
  exact ⟨rfl, n, rfl⟩

theorem answer_bad (q u x g d m1 m2 m3 m4 : Int) (w : World) (h : (q != 0) = true) :
    Calls Try.prog 134 #[.agg #[.int .i64 u, .int .i64 m1, .int .i64 x, .int .i64 m2, .int .i64 g, .int .i64 m3, .int .i64 d, .int .i64 m4], .int .i64 q] w fun e w' => e = .returned (.agg #[.int .i64 q, .int .i64 0, .int .i64 0, .int .i64 0, .int .i64 0, .bool false]) ∧ Below w.heap.size w w' := by
  have B2 : Hid (∀ o o', Below w.heap.size w ((w.alloc o).alloc o')) := fun o o' => ((Below.refl _ _).alloc (Nat.le_refl _) o).alloc (by simp) o'
  go_enter Try.func134, Try.ntmps134
  go_wp2
  go_returns
  exact ⟨rfl, B2.out _ _⟩

theorem answer_ok (u x g d m1 m2 m3 m4 : Int) (w : World) :
    Calls Try.prog 134 #[.agg #[.int .i64 u, .int .i64 m1, .int .i64 x, .int .i64 m2, .int .i64 g, .int .i64 m3, .int .i64 d, .int .i64 m4], .int .i64 0] w fun e w' => e = .returned (.agg #[.int .i64 0, .int .i64 u, .int .i64 x, .int .i64 g, .int .i64 d, .bool false]) ∧ Below w.heap.size w w' := by
  have B2 : Hid (∀ o o', Below w.heap.size w ((w.alloc o).alloc o')) := fun o o' => ((Below.refl _ _).alloc (Nat.le_refl _) o).alloc (by simp) o'
  have K2 : Hid (∀ o o', ((w.alloc o).alloc o').heap[w.heap.size + 1]? = some o') := fun o o' => heap_alloc2_new w o o'
  go_enter Try.func134, Try.ntmps134
  go_wp2_with fail
  refine (account_any u x g d m1 m2 m3 m4 _).mono ?_
  rintro e w1 ⟨rfl, hb⟩
  have k2 := (hb.block (w.heap.size + 1) (by simp)).trans (K2.out _ _)
  have HB := Lib.hid ((B2.out _ _).trans (hb.mono (by simp; omega)))
  have HK := Lib.hid k2
  have e0 := frozen_of_row w1 _ 0 _ _ k2
  have e1 := frozen_of_row w1 _ 1 _ _ k2
  have e2 := frozen_of_row w1 _ 2 _ _ k2
  have e3 := frozen_of_row w1 _ 3 _ _ k2
  have e4 := frozen_of_row w1 _ 4 _ _ k2
  have e5 := frozen_of_row w1 _ 5 _ _ k2
  have r0 := cell_of_row w1 _ 0 _ _ _ k2
  have r1 := cell_of_row w1 _ 1 _ _ _ k2
  have r2 := cell_of_row w1 _ 2 _ _ _ k2
  have r3 := cell_of_row w1 _ 3 _ _ _ k2
  have r4 := cell_of_row w1 _ 4 _ _ _ k2
  have r5 := cell_of_row w1 _ 5 _ _ _ k2
  simp at r0 r1 r2 r3 r4 r5
  clear hb k2 K2
  go_wp2
  exact bodyPost_ret (results_cell_row rfl _ _ (w.heap.size + 1) _ _ (0, 0) _ rfl (blk6_set HK.out _ _ _ _ _ _) Try.underlying158 rfl (by kernel_rfl)) rfl ⟨rfl, below6 HB.out (by omega) _ _ _ _ _ _⟩

end Go.Proofs.Yteigjjgekkcfkaa
