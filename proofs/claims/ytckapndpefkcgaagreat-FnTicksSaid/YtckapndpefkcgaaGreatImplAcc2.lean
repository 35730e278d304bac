/-
  The program's functions of chapter 2: what each answers, for every account: the same plain functions as the model's. No conditions.
-/
import Derived.Deep.RegionHeld3
import Derived.BigQuiet
import Derived.Test.YtckapndpefkcgaaGreatSpec1
import Derived.Test.YtckapndpefkcgaaGreatMath3
set_option maxHeartbeats 1000000

namespace Go.Proofs.YtckapndpefkcgaaGreat
open Go.RowKit

theorem fits_any (c m : Int) (w : World) :
    Calls Tryz.prog 124 #[.agg #[.int .i64 c, .int .i64 m]] w fun e w' => e = .returned (.bool (inR 0 m c)) ∧ Below w.heap.size w w' := by
  have B1 := Lib.hid (below_new w (.cells #[.int .i64 c, .int .i64 m] 173))
  by_cases h1 : 0 ≤ c
  · by_cases h2 : c ≤ m
    · go_enter Tryz.func124, Tryz.ntmps124
      go_wp2
      go_ret
      exact ⟨ret_bool (inR_true ⟨h1, h2⟩).symm, B1.out⟩
    · go_enter Tryz.func124, Tryz.ntmps124
      go_wp2
      go_ret
      exact ⟨ret_bool (inR_false (by omega)).symm, B1.out⟩
  · go_enter Tryz.func124, Tryz.ntmps124
    go_wp2
    go_ret
    exact ⟨ret_bool (inR_false (by omega)).symm, B1.out⟩

theorem ticksOf_any (c : Int) (w : World) :
    Calls Tryz.prog 155 #[.int .i64 c] w fun e w' => e = .returned (.agg #[.int .i64 c, .int .i64 1000000]) ∧ Below w.heap.size w w' := by
  have B1 : Hid (∀ o, Below w.heap.size w (w.alloc o)) := fun o => below_new w o
  go_enter Tryz.func155, Tryz.ntmps155
  go_wp2
  go_returns
  exact ⟨rfl, B1.out _⟩

theorem account_any (u x g d m1 m2 m3 m4 : Int) (w : World) :
    Calls Tryz.prog 169 #[.agg #[.int .i64 u, .int .i64 m1, .int .i64 x, .int .i64 m2, .int .i64 g, .int .i64 m3, .int .i64 d, .int .i64 m4]] w fun e w' => e = .returned (.agg #[.int .i64 u, .int .i64 x, .int .i64 g, .int .i64 d]) ∧ Below w.heap.size w w' := by
  have B2 : Hid (∀ o o', Below w.heap.size w ((w.alloc o).alloc o')) := fun o o' => ((Below.refl _ _).alloc (Nat.le_refl _) o).alloc (by simp) o'
  go_enter Tryz.func169, Tryz.ntmps169
  go_wp2
  go_returns
  exact ⟨rfl, B2.out _ _⟩

theorem raise_room (g i : Nat) (c m : Int) (w : World) (h : c < m) (hb : m ≤ 1000000) (q0 : w.cell? ⟨g, i, none⟩ = some (.int .i64 c)) (q1 : w.cell? ⟨g, i + 1, none⟩ = some (.int .i64 m)) (f0 : w.frozen? ⟨g, i, none⟩ = false) (hl : -1 ≤ c) :
    Calls Tryz.prog 175 #[.pointer (some ⟨g, i, none⟩)] w fun e w' => e = .returned (.bool true) ∧ ∃ n, w' = (w.setCell ⟨g, i, none⟩ (.int .i64 (c + 1))).drewN n := by
  go_enter Tryz.func175, Tryz.ntmps175
  go_wp2_with fail
  go_region
  go_wp2
  go_ret
  exact ⟨rfl, _, rfl⟩

theorem raise_full (g i : Nat) (c m : Int) (w : World) (h : m ≤ c) (q0 : w.cell? ⟨g, i, none⟩ = some (.int .i64 c)) (q1 : w.cell? ⟨g, i + 1, none⟩ = some (.int .i64 m)) :
    Calls Tryz.prog 175 #[.pointer (some ⟨g, i, none⟩)] w fun e w' => e = .returned (.bool false) ∧ ∃ n, w' = w.drewN n := by
  go_enter Tryz.func175, Tryz.ntmps175
  go_wp2_with fail
  go_region
  go_wp2
  go_ret
  exact ⟨rfl, _, rfl⟩

theorem lower_any (g i : Nat) (c : Int) (w : World) (h : 0 < c) (hb : c ≤ 3) (q0 : w.cell? ⟨g, i, none⟩ = some (.int .i64 c)) (f0 : w.frozen? ⟨g, i, none⟩ = false) :
    Calls Tryz.prog 173 #[.pointer (some ⟨g, i, none⟩)] w fun e w' => e = .returned (.bool true) ∧ ∃ n, w' = (w.setCell ⟨g, i, none⟩ (.int .i64 (c - 1))).drewN n := by
  go_enter Tryz.func173, Tryz.ntmps173
  go_wp2
  go_ret
  exact ⟨rfl, 0, rfl⟩

theorem lower_none (g i : Nat) (c : Int) (w : World) (h : c ≤ 0) (q0 : w.cell? ⟨g, i, none⟩ = some (.int .i64 c)) :
    Calls Tryz.prog 173 #[.pointer (some ⟨g, i, none⟩)] w fun e w' => e = .returned (.bool false) ∧ ∃ n, w' = w.drewN n := by
  go_enter Tryz.func173, Tryz.ntmps173
  go_wp2
  go_ret
  exact ⟨rfl, 0, rfl⟩

theorem add_room (g i : Nat) (c m : Int) (w : World) (h : c < m) (hb : m ≤ 1000000) (q0 : w.cell? ⟨g, i, none⟩ = some (.int .i64 c)) (q1 : w.cell? ⟨g, i + 1, none⟩ = some (.int .i64 m)) (f0 : w.frozen? ⟨g, i, none⟩ = false) (hl : -1 ≤ c) :
    Calls Tryz.prog 174 #[.pointer (some ⟨g, i, none⟩)] w fun e w' => e = .returned (.int .i64 0) ∧ ∃ n, w' = (w.setCell ⟨g, i, none⟩ (.int .i64 (c + 1))).drewN n := by
  have C := Lib.hid (raise_room g i c m w h hb q0 q1 f0 hl)
  go_enter Tryz.func174, Tryz.ntmps174
  go_wp2_with (go_at_call 175; refine C.out.mono ?_; rintro e w' ⟨rfl, n, rfl⟩)
  go_ret
  exact ⟨rfl, n, rfl⟩

theorem add_full (g i : Nat) (c m : Int) (w : World) (h : m ≤ c) (q0 : w.cell? ⟨g, i, none⟩ = some (.int .i64 c)) (q1 : w.cell? ⟨g, i + 1, none⟩ = some (.int .i64 m)) :
    Calls Tryz.prog 174 #[.pointer (some ⟨g, i, none⟩)] w fun e w' => e = .returned (.int .i64 8) ∧ ∃ n, w' = w.drewN n := by
  have C := Lib.hid (raise_full g i c m w h q0 q1)
  go_enter Tryz.func174, Tryz.ntmps174
  go_wp2_with (go_at_call 175; refine C.out.mono ?_; rintro e w' ⟨rfl, n, rfl⟩)
  go_ret
  exact ⟨rfl, n, rfl⟩

theorem punish_room (g i : Nat) (c m : Int) (w : World) (h : c < m) (hb : m ≤ 1000000) (q0 : w.cell? ⟨g, i, none⟩ = some (.int .i64 c)) (q1 : w.cell? ⟨g, i + 1, none⟩ = some (.int .i64 m)) (f0 : w.frozen? ⟨g, i, none⟩ = false) (hl : -1 ≤ c) :
    Calls Tryz.prog 168 #[.pointer (some ⟨g, i, none⟩)] w fun e w' => e = .returned (.bool false) ∧ ∃ n, w' = (w.setCell ⟨g, i, none⟩ (.int .i64 (c + 1))).drewN n := by
  have C := Lib.hid (raise_room g i c m w h hb q0 q1 f0 hl)
  go_enter Tryz.func168, Tryz.ntmps168
  go_wp2_with (go_at_call 175; refine C.out.mono ?_; rintro e w' ⟨rfl, n, rfl⟩)
  go_ret
  exact ⟨rfl, n, rfl⟩

theorem punish_full (g i : Nat) (c m : Int) (w : World) (h : m ≤ c) (q0 : w.cell? ⟨g, i, none⟩ = some (.int .i64 c)) (q1 : w.cell? ⟨g, i + 1, none⟩ = some (.int .i64 m)) :
    Calls Tryz.prog 168 #[.pointer (some ⟨g, i, none⟩)] w fun e w' => e = .returned (.bool true) ∧ ∃ n, w' = w.drewN n := by
  have C := Lib.hid (raise_full g i c m w h q0 q1)
  go_enter Tryz.func168, Tryz.ntmps168
  go_wp2_with (go_at_call 175; refine C.out.mono ?_; rintro e w' ⟨rfl, n, rfl⟩)
  go_ret
  exact ⟨rfl, n, rfl⟩

theorem skipm_any (g i : Nat) (c : Int) (w : World) (h : 0 < c) (hb : c ≤ 3) (q0 : w.cell? ⟨g, i, none⟩ = some (.int .i64 c)) (f0 : w.frozen? ⟨g, i, none⟩ = false) :
    Calls Tryz.prog 164 #[.pointer (some ⟨g, i, none⟩)] w fun e w' => e = .returned (.int .i64 0) ∧ ∃ n, w' = (w.setCell ⟨g, i, none⟩ (.int .i64 (c - 1))).drewN n := by
  have C := Lib.hid (lower_any g i c w h hb q0 f0)
  go_enter Tryz.func164, Tryz.ntmps164
  go_wp2_with (go_at_call 173; refine C.out.mono ?_; rintro e w' ⟨rfl, n, rfl⟩)
  go_ret
  exact ⟨rfl, n, rfl⟩

theorem skipm_none (g i : Nat) (c : Int) (w : World) (h : c ≤ 0) (q0 : w.cell? ⟨g, i, none⟩ = some (.int .i64 c)) :
    Calls Tryz.prog 164 #[.pointer (some ⟨g, i, none⟩)] w fun e w' => e = .returned (.int .i64 4) ∧ ∃ n, w' = w.drewN n := by
  have C := Lib.hid (lower_none g i c w h q0)
  go_enter Tryz.func164, Tryz.ntmps164
  go_wp2_with (go_at_call 173; refine C.out.mono ?_; rintro e w' ⟨rfl, n, rfl⟩)
  go_ret
  exact ⟨rfl, n, rfl⟩

theorem answer_bad (q u x g d m1 m2 m3 m4 : Int) (w : World) (h : (q != 0) = true) :
    Calls Tryz.prog 165 #[.agg #[.int .i64 u, .int .i64 m1, .int .i64 x, .int .i64 m2, .int .i64 g, .int .i64 m3, .int .i64 d, .int .i64 m4], .int .i64 q] w fun e w' => e = .returned (.agg #[.int .i64 q, .int .i64 0, .int .i64 0, .int .i64 0, .int .i64 0, .bool false]) ∧ Below w.heap.size w w' := by
  have B2 : Hid (∀ o o', Below w.heap.size w ((w.alloc o).alloc o')) := fun o o' => ((Below.refl _ _).alloc (Nat.le_refl _) o).alloc (by simp) o'
  go_enter Tryz.func165, Tryz.ntmps165
  go_wp2
  go_returns
  exact ⟨rfl, B2.out _ _⟩

theorem answer_ok (u x g d m1 m2 m3 m4 : Int) (w : World) :
    Calls Tryz.prog 165 #[.agg #[.int .i64 u, .int .i64 m1, .int .i64 x, .int .i64 m2, .int .i64 g, .int .i64 m3, .int .i64 d, .int .i64 m4], .int .i64 0] w fun e w' => e = .returned (.agg #[.int .i64 0, .int .i64 u, .int .i64 x, .int .i64 g, .int .i64 d, .bool false]) ∧ Below w.heap.size w w' := by
  have B2 : Hid (∀ o o', Below w.heap.size w ((w.alloc o).alloc o')) := fun o o' => ((Below.refl _ _).alloc (Nat.le_refl _) o).alloc (by simp) o'
  have K2 : Hid (∀ o o', ((w.alloc o).alloc o').heap[w.heap.size + 1]? = some o') := fun o o' => heap_alloc2_new w o o'
  go_enter Tryz.func165, Tryz.ntmps165
  go_wp2_with fail
  refine (account_any u x g d m1 m2 m3 m4 _).mono ?_
  rintro e w1 ⟨rfl, hb⟩
  have k2 := (hb.block (w.heap.size + 1) (by simp)).trans (K2.out _ _)
  have HB := Lib.hid ((B2.out _ _).trans (hb.mono (by simp; omega)))
  have HK := Lib.hid k2
  have e0 := frozen_of_row w1 _ 0 _ _ k2
  have e1 := frozen_of_row w1 _ 1 _ _ k2
  have e2 := frozen_of_row w1 _ 2 _ _ k2
  have e3 := frozen_of_row w1 _ 3 _ _ k2
  have e4 := frozen_of_row w1 _ 4 _ _ k2
  have e5 := frozen_of_row w1 _ 5 _ _ k2
  have r0 := cell_of_row w1 _ 0 _ _ _ k2
  have r1 := cell_of_row w1 _ 1 _ _ _ k2
  have r2 := cell_of_row w1 _ 2 _ _ _ k2
  have r3 := cell_of_row w1 _ 3 _ _ _ k2
  have r4 := cell_of_row w1 _ 4 _ _ _ k2
  have r5 := cell_of_row w1 _ 5 _ _ _ k2
  simp at r0 r1 r2 r3 r4 r5
  clear hb k2 K2
  go_wp2
  exact bodyPost_ret (results_cell_row rfl _ _ (w.heap.size + 1) _ _ (0, 0) _ rfl (blk6_set HK.out _ _ _ _ _ _) Tryz.underlying163 rfl (by kernel_rfl)) rfl ⟨rfl, below6 HB.out (by omega) _ _ _ _ _ _⟩



theorem blk8_set {w : World} {g : Nat} {a0 a1 a2 a3 a4 a5 a6 a7 : Value} {t : TypeId} (h : w.heap[g]? = some (.cells #[a0, a1, a2, a3, a4, a5, a6, a7] t (0, 0))) (b0 b1 b2 b3 b4 b5 b6 b7 : Value) :
    ((((((((w.setCell ⟨g, 0, none⟩ b0).setCell ⟨g, 1, none⟩ b1).setCell ⟨g, 2, none⟩ b2).setCell ⟨g, 3, none⟩ b3).setCell ⟨g, 4, none⟩ b4).setCell ⟨g, 5, none⟩ b5).setCell ⟨g, 6, none⟩ b6).setCell ⟨g, 7, none⟩ b7).heap[g]? = some (.cells #[b0, b1, b2, b3, b4, b5, b6, b7] t (0, 0)) := by
  have h0 : (w.setCell ⟨g, 0, none⟩ b0).heap[g]? = some (.cells #[b0, a1, a2, a3, a4, a5, a6, a7] t (0, 0)) := heap_setCell_same w g 0 _ t b0 h
  have h1 : ((w.setCell ⟨g, 0, none⟩ b0).setCell ⟨g, 1, none⟩ b1).heap[g]? = some (.cells #[b0, b1, a2, a3, a4, a5, a6, a7] t (0, 0)) := heap_setCell_same (w.setCell ⟨g, 0, none⟩ b0) g 1 _ t b1 h0
  have h2 : (((w.setCell ⟨g, 0, none⟩ b0).setCell ⟨g, 1, none⟩ b1).setCell ⟨g, 2, none⟩ b2).heap[g]? = some (.cells #[b0, b1, b2, a3, a4, a5, a6, a7] t (0, 0)) := heap_setCell_same ((w.setCell ⟨g, 0, none⟩ b0).setCell ⟨g, 1, none⟩ b1) g 2 _ t b2 h1
  have h3 : ((((w.setCell ⟨g, 0, none⟩ b0).setCell ⟨g, 1, none⟩ b1).setCell ⟨g, 2, none⟩ b2).setCell ⟨g, 3, none⟩ b3).heap[g]? = some (.cells #[b0, b1, b2, b3, a4, a5, a6, a7] t (0, 0)) := heap_setCell_same (((w.setCell ⟨g, 0, none⟩ b0).setCell ⟨g, 1, none⟩ b1).setCell ⟨g, 2, none⟩ b2) g 3 _ t b3 h2
  have h4 : (((((w.setCell ⟨g, 0, none⟩ b0).setCell ⟨g, 1, none⟩ b1).setCell ⟨g, 2, none⟩ b2).setCell ⟨g, 3, none⟩ b3).setCell ⟨g, 4, none⟩ b4).heap[g]? = some (.cells #[b0, b1, b2, b3, b4, a5, a6, a7] t (0, 0)) := heap_setCell_same ((((w.setCell ⟨g, 0, none⟩ b0).setCell ⟨g, 1, none⟩ b1).setCell ⟨g, 2, none⟩ b2).setCell ⟨g, 3, none⟩ b3) g 4 _ t b4 h3
  have h5 : ((((((w.setCell ⟨g, 0, none⟩ b0).setCell ⟨g, 1, none⟩ b1).setCell ⟨g, 2, none⟩ b2).setCell ⟨g, 3, none⟩ b3).setCell ⟨g, 4, none⟩ b4).setCell ⟨g, 5, none⟩ b5).heap[g]? = some (.cells #[b0, b1, b2, b3, b4, b5, a6, a7] t (0, 0)) := heap_setCell_same (((((w.setCell ⟨g, 0, none⟩ b0).setCell ⟨g, 1, none⟩ b1).setCell ⟨g, 2, none⟩ b2).setCell ⟨g, 3, none⟩ b3).setCell ⟨g, 4, none⟩ b4) g 5 _ t b5 h4
  have h6 : (((((((w.setCell ⟨g, 0, none⟩ b0).setCell ⟨g, 1, none⟩ b1).setCell ⟨g, 2, none⟩ b2).setCell ⟨g, 3, none⟩ b3).setCell ⟨g, 4, none⟩ b4).setCell ⟨g, 5, none⟩ b5).setCell ⟨g, 6, none⟩ b6).heap[g]? = some (.cells #[b0, b1, b2, b3, b4, b5, b6, a7] t (0, 0)) := heap_setCell_same ((((((w.setCell ⟨g, 0, none⟩ b0).setCell ⟨g, 1, none⟩ b1).setCell ⟨g, 2, none⟩ b2).setCell ⟨g, 3, none⟩ b3).setCell ⟨g, 4, none⟩ b4).setCell ⟨g, 5, none⟩ b5) g 6 _ t b6 h5
  have h7 : ((((((((w.setCell ⟨g, 0, none⟩ b0).setCell ⟨g, 1, none⟩ b1).setCell ⟨g, 2, none⟩ b2).setCell ⟨g, 3, none⟩ b3).setCell ⟨g, 4, none⟩ b4).setCell ⟨g, 5, none⟩ b5).setCell ⟨g, 6, none⟩ b6).setCell ⟨g, 7, none⟩ b7).heap[g]? = some (.cells #[b0, b1, b2, b3, b4, b5, b6, b7] t (0, 0)) := heap_setCell_same (((((((w.setCell ⟨g, 0, none⟩ b0).setCell ⟨g, 1, none⟩ b1).setCell ⟨g, 2, none⟩ b2).setCell ⟨g, 3, none⟩ b3).setCell ⟨g, 4, none⟩ b4).setCell ⟨g, 5, none⟩ b5).setCell ⟨g, 6, none⟩ b6) g 7 _ t b7 h6
  exact h7
theorem below8 {B g : Nat} {a w : World} (h : Below B a w) (hg : B ≤ g) (b0 b1 b2 b3 b4 b5 b6 b7 : Value) :
    Below B a ((((((((w.setCell ⟨g, 0, none⟩ b0).setCell ⟨g, 1, none⟩ b1).setCell ⟨g, 2, none⟩ b2).setCell ⟨g, 3, none⟩ b3).setCell ⟨g, 4, none⟩ b4).setCell ⟨g, 5, none⟩ b5).setCell ⟨g, 6, none⟩ b6).setCell ⟨g, 7, none⟩ b7) :=
  (((((((h.setCell (p := ⟨g, 0, none⟩) hg b0).setCell (p := ⟨g, 1, none⟩) hg b1).setCell (p := ⟨g, 2, none⟩) hg b2).setCell (p := ⟨g, 3, none⟩) hg b3).setCell (p := ⟨g, 4, none⟩) hg b4).setCell (p := ⟨g, 5, none⟩) hg b5).setCell (p := ⟨g, 6, none⟩) hg b6).setCell (p := ⟨g, 7, none⟩) hg b7

def cv (W : World) (p : Addr) : Value := (W.cell? p).getD (.bool false)
theorem cv_eq {W : World} {p : Addr} {v : Value} (h : W.cell? p = some v) : W.cell? p = some (cv W p) := by unfold cv; rw [h]; rfl
inductive LedS (s : Nat) (t : TypeId) (W0 W : World) : Prop where
  | intro (h : Below s W0 W) (b0 b1 b2 b3 b4 b5 b6 b7 : Value) (k : W.heap[s]? = some (.cells #[b0, b1, b2, b3, b4, b5, b6, b7] t (0, 0))) : LedS s t W0 W
theorem LedS.blk {s : Nat} {t : TypeId} {W0 W : World} (h : LedS s t W0 W) : Below s W0 W ∧ ∃ b0 b1 b2 b3 b4 b5 b6 b7, W.heap[s]? = some (.cells #[b0, b1, b2, b3, b4, b5, b6, b7] t (0, 0)) := by
  cases h with | intro h b0 b1 b2 b3 b4 b5 b6 b7 k => exact ⟨h, b0, b1, b2, b3, b4, b5, b6, b7, k⟩
theorem LedS.frozen {s : Nat} {t : TypeId} {W0 W : World} (h : LedS s t W0 W) (i : Nat) : W.frozen? ⟨s, i, none⟩ = false := by
  obtain ⟨_, b0, b1, b2, b3, b4, b5, b6, b7, h⟩ := h.blk
  exact frozen_of_row W s i _ t h
theorem LedS.cell {s : Nat} {t : TypeId} {W0 W : World} (h : LedS s t W0 W) (i : Nat) (hi : i < 8) : W.cell? ⟨s, i, none⟩ = some (cv W ⟨s, i, none⟩) := by
  obtain ⟨_, b0, b1, b2, b3, b4, b5, b6, b7, h⟩ := h.blk
  have e : i = 0 ∨ i = 1 ∨ i = 2 ∨ i = 3 ∨ i = 4 ∨ i = 5 ∨ i = 6 ∨ i = 7 := by omega
  rcases e with rfl | rfl | rfl | rfl | rfl | rfl | rfl | rfl
  · exact cv_eq (cell_of_row W _ 0 _ _ _ h)
  · exact cv_eq (cell_of_row W _ 1 _ _ _ h)
  · exact cv_eq (cell_of_row W _ 2 _ _ _ h)
  · exact cv_eq (cell_of_row W _ 3 _ _ _ h)
  · exact cv_eq (cell_of_row W _ 4 _ _ _ h)
  · exact cv_eq (cell_of_row W _ 5 _ _ _ h)
  · exact cv_eq (cell_of_row W _ 6 _ _ _ h)
  · exact cv_eq (cell_of_row W _ 7 _ _ _ h)
theorem LedS.store {s : Nat} {t : TypeId} {W0 W : World} (h : LedS s t W0 W) (v0 v1 v2 v3 v4 v5 v6 v7 : Value) : LedS s t W0 ((((((((W.setCell ⟨s, 0, none⟩ v0).setCell ⟨s, 1, none⟩ v1).setCell ⟨s, 2, none⟩ v2).setCell ⟨s, 3, none⟩ v3).setCell ⟨s, 4, none⟩ v4).setCell ⟨s, 5, none⟩ v5).setCell ⟨s, 6, none⟩ v6).setCell ⟨s, 7, none⟩ v7) := by
  obtain ⟨h0, b0, b1, b2, b3, b4, b5, b6, b7, h⟩ := h.blk
  exact ⟨below8 h0 (Nat.le_refl _) v0 v1 v2 v3 v4 v5 v6 v7, _, _, _, _, _, _, _, _, blk8_set h v0 v1 v2 v3 v4 v5 v6 v7⟩
theorem LedS.below {s : Nat} {t : TypeId} {W0 W W' : World} (h : LedS s t W0 W) (hb : Below W.heap.size W W') : LedS s t W0 W' := by
  obtain ⟨h0, b0, b1, b2, b3, b4, b5, b6, b7, h⟩ := h.blk
  have hl : s < W.heap.size := (Array.getElem?_eq_some_iff.1 h).1
  exact ⟨h0.trans (hb.mono (by omega)), b0, b1, b2, b3, b4, b5, b6, b7, (hb.block s hl).trans h⟩

set_option maxHeartbeats 4000000 in
theorem ledgerOf_any (u x g d : Int) (w : World) :
    Calls Tryz.prog 123 #[.agg #[.int .i64 u, .int .i64 x, .int .i64 g, .int .i64 d]] w fun e w' => e = .returned (.agg #[.int .i64 u, .int .i64 1000000, .int .i64 x, .int .i64 1000000, .int .i64 g, .int .i64 1000000, .int .i64 d, .int .i64 3]) ∧ Below w.heap.size w w' := by
  have ⟨W0, hW0⟩ : ∃ W0, W0 = (w.alloc (.cells #[.int .i64 u, .int .i64 x, .int .i64 g, .int .i64 d] 68)).alloc (.cells #[.int .i64 0, .int .i64 0, .int .i64 0, .int .i64 0, .int .i64 0, .int .i64 0, .int .i64 0, .int .i64 0] 178) := ⟨_, rfl⟩
  have k1 : W0.heap[w.heap.size]? = some (.cells #[.int .i64 u, .int .i64 x, .int .i64 g, .int .i64 d] 68 (0, 0)) := by rw [hW0]; exact heap_alloc2_old w _ _
  have k2 : W0.heap[w.heap.size + 1]? = some (.cells #[.int .i64 0, .int .i64 0, .int .i64 0, .int .i64 0, .int .i64 0, .int .i64 0, .int .i64 0, .int .i64 0] 178 (0, 0)) := by rw [hW0]; exact heap_alloc2_new w _ _
  have B2 : Hid (Below w.heap.size w W0) := by rw [hW0]; exact ((Below.refl _ _).alloc (Nat.le_refl _) _).alloc (by simp) _
  have KS : Hid (∀ W, LedS (w.heap.size + 1) 178 W0 W → (W.cell? ⟨w.heap.size, 0, none⟩ = some (.int .i64 u) ∧ W.cell? ⟨w.heap.size, 1, none⟩ = some (.int .i64 x) ∧ W.cell? ⟨w.heap.size, 2, none⟩ = some (.int .i64 g) ∧ W.cell? ⟨w.heap.size, 3, none⟩ = some (.int .i64 d) ∧ W.cell? ⟨w.heap.size + 1, 0, none⟩ = some (cv W ⟨w.heap.size + 1, 0, none⟩) ∧ W.frozen? ⟨w.heap.size + 1, 0, none⟩ = false ∧ W.cell? ⟨w.heap.size + 1, 1, none⟩ = some (cv W ⟨w.heap.size + 1, 1, none⟩) ∧ W.frozen? ⟨w.heap.size + 1, 1, none⟩ = false ∧ W.cell? ⟨w.heap.size + 1, 2, none⟩ = some (cv W ⟨w.heap.size + 1, 2, none⟩) ∧ W.frozen? ⟨w.heap.size + 1, 2, none⟩ = false ∧ W.cell? ⟨w.heap.size + 1, 3, none⟩ = some (cv W ⟨w.heap.size + 1, 3, none⟩) ∧ W.frozen? ⟨w.heap.size + 1, 3, none⟩ = false ∧ W.cell? ⟨w.heap.size + 1, 4, none⟩ = some (cv W ⟨w.heap.size + 1, 4, none⟩) ∧ W.frozen? ⟨w.heap.size + 1, 4, none⟩ = false ∧ W.cell? ⟨w.heap.size + 1, 5, none⟩ = some (cv W ⟨w.heap.size + 1, 5, none⟩) ∧ W.frozen? ⟨w.heap.size + 1, 5, none⟩ = false ∧ W.cell? ⟨w.heap.size + 1, 6, none⟩ = some (cv W ⟨w.heap.size + 1, 6, none⟩) ∧ W.frozen? ⟨w.heap.size + 1, 6, none⟩ = false ∧ W.cell? ⟨w.heap.size + 1, 7, none⟩ = some (cv W ⟨w.heap.size + 1, 7, none⟩) ∧ W.frozen? ⟨w.heap.size + 1, 7, none⟩ = false ∧ LedS (w.heap.size + 1) 178 W0 W)) := fun W h => ⟨(h.blk.1.cell (p := ⟨w.heap.size, 0, none⟩) (by simp)).trans (cell_of_row W0 _ 0 _ _ _ k1), (h.blk.1.cell (p := ⟨w.heap.size, 1, none⟩) (by simp)).trans (cell_of_row W0 _ 1 _ _ _ k1), (h.blk.1.cell (p := ⟨w.heap.size, 2, none⟩) (by simp)).trans (cell_of_row W0 _ 2 _ _ _ k1), (h.blk.1.cell (p := ⟨w.heap.size, 3, none⟩) (by simp)).trans (cell_of_row W0 _ 3 _ _ _ k1), h.cell 0 (by omega), h.frozen 0, h.cell 1 (by omega), h.frozen 1, h.cell 2 (by omega), h.frozen 2, h.cell 3 (by omega), h.frozen 3, h.cell 4 (by omega), h.frozen 4, h.cell 5 (by omega), h.frozen 5, h.cell 6 (by omega), h.frozen 6, h.cell 7 (by omega), h.frozen 7, h⟩
  have PS : Hid (∀ W, (W.cell? ⟨w.heap.size, 0, none⟩ = some (.int .i64 u) ∧ W.cell? ⟨w.heap.size, 1, none⟩ = some (.int .i64 x) ∧ W.cell? ⟨w.heap.size, 2, none⟩ = some (.int .i64 g) ∧ W.cell? ⟨w.heap.size, 3, none⟩ = some (.int .i64 d) ∧ W.cell? ⟨w.heap.size + 1, 0, none⟩ = some (cv W ⟨w.heap.size + 1, 0, none⟩) ∧ W.frozen? ⟨w.heap.size + 1, 0, none⟩ = false ∧ W.cell? ⟨w.heap.size + 1, 1, none⟩ = some (cv W ⟨w.heap.size + 1, 1, none⟩) ∧ W.frozen? ⟨w.heap.size + 1, 1, none⟩ = false ∧ W.cell? ⟨w.heap.size + 1, 2, none⟩ = some (cv W ⟨w.heap.size + 1, 2, none⟩) ∧ W.frozen? ⟨w.heap.size + 1, 2, none⟩ = false ∧ W.cell? ⟨w.heap.size + 1, 3, none⟩ = some (cv W ⟨w.heap.size + 1, 3, none⟩) ∧ W.frozen? ⟨w.heap.size + 1, 3, none⟩ = false ∧ W.cell? ⟨w.heap.size + 1, 4, none⟩ = some (cv W ⟨w.heap.size + 1, 4, none⟩) ∧ W.frozen? ⟨w.heap.size + 1, 4, none⟩ = false ∧ W.cell? ⟨w.heap.size + 1, 5, none⟩ = some (cv W ⟨w.heap.size + 1, 5, none⟩) ∧ W.frozen? ⟨w.heap.size + 1, 5, none⟩ = false ∧ W.cell? ⟨w.heap.size + 1, 6, none⟩ = some (cv W ⟨w.heap.size + 1, 6, none⟩) ∧ W.frozen? ⟨w.heap.size + 1, 6, none⟩ = false ∧ W.cell? ⟨w.heap.size + 1, 7, none⟩ = some (cv W ⟨w.heap.size + 1, 7, none⟩) ∧ W.frozen? ⟨w.heap.size + 1, 7, none⟩ = false ∧ LedS (w.heap.size + 1) 178 W0 W) → LedS (w.heap.size + 1) 178 W0 W) := fun W h => h.2.2.2.2.2.2.2.2.2.2.2.2.2.2.2.2.2.2.2.2
  have CT : Hid (∀ (c : Int) W, LedS (w.heap.size + 1) 178 W0 W → Calls Tryz.prog 155 #[.int .i64 c] W fun e w' => e = .returned (.agg #[.int .i64 c, .int .i64 1000000]) ∧ LedS (w.heap.size + 1) 178 W0 w') := fun c W h =>
    (ticksOf_any c W).mono fun e w' hb => ⟨hb.1, h.below hb.2⟩
  have R0 : Hid (LedS (w.heap.size + 1) 178 W0 W0.drew) := ⟨Below.drew (Below.refl _ _), _, _, _, _, _, _, _, _, k2⟩
  have ST : Hid (∀ W v0 v1 v2 v3 v4 v5 v6 v7, (W.cell? ⟨w.heap.size, 0, none⟩ = some (.int .i64 u) ∧ W.cell? ⟨w.heap.size, 1, none⟩ = some (.int .i64 x) ∧ W.cell? ⟨w.heap.size, 2, none⟩ = some (.int .i64 g) ∧ W.cell? ⟨w.heap.size, 3, none⟩ = some (.int .i64 d) ∧ W.cell? ⟨w.heap.size + 1, 0, none⟩ = some (cv W ⟨w.heap.size + 1, 0, none⟩) ∧ W.frozen? ⟨w.heap.size + 1, 0, none⟩ = false ∧ W.cell? ⟨w.heap.size + 1, 1, none⟩ = some (cv W ⟨w.heap.size + 1, 1, none⟩) ∧ W.frozen? ⟨w.heap.size + 1, 1, none⟩ = false ∧ W.cell? ⟨w.heap.size + 1, 2, none⟩ = some (cv W ⟨w.heap.size + 1, 2, none⟩) ∧ W.frozen? ⟨w.heap.size + 1, 2, none⟩ = false ∧ W.cell? ⟨w.heap.size + 1, 3, none⟩ = some (cv W ⟨w.heap.size + 1, 3, none⟩) ∧ W.frozen? ⟨w.heap.size + 1, 3, none⟩ = false ∧ W.cell? ⟨w.heap.size + 1, 4, none⟩ = some (cv W ⟨w.heap.size + 1, 4, none⟩) ∧ W.frozen? ⟨w.heap.size + 1, 4, none⟩ = false ∧ W.cell? ⟨w.heap.size + 1, 5, none⟩ = some (cv W ⟨w.heap.size + 1, 5, none⟩) ∧ W.frozen? ⟨w.heap.size + 1, 5, none⟩ = false ∧ W.cell? ⟨w.heap.size + 1, 6, none⟩ = some (cv W ⟨w.heap.size + 1, 6, none⟩) ∧ W.frozen? ⟨w.heap.size + 1, 6, none⟩ = false ∧ W.cell? ⟨w.heap.size + 1, 7, none⟩ = some (cv W ⟨w.heap.size + 1, 7, none⟩) ∧ W.frozen? ⟨w.heap.size + 1, 7, none⟩ = false ∧ LedS (w.heap.size + 1) 178 W0 W) → LedS (w.heap.size + 1) 178 W0 ((((((((W.setCell ⟨w.heap.size + 1, 0, none⟩ v0).setCell ⟨w.heap.size + 1, 1, none⟩ v1).setCell ⟨w.heap.size + 1, 2, none⟩ v2).setCell ⟨w.heap.size + 1, 3, none⟩ v3).setCell ⟨w.heap.size + 1, 4, none⟩ v4).setCell ⟨w.heap.size + 1, 5, none⟩ v5).setCell ⟨w.heap.size + 1, 6, none⟩ v6).setCell ⟨w.heap.size + 1, 7, none⟩ v7)) := fun W v0 v1 v2 v3 v4 v5 v6 v7 h => (PS.out W h).store v0 v1 v2 v3 v4 v5 v6 v7
  clear k1 k2
  go_enter Tryz.func123, Tryz.ntmps123
  go_wp2_with fail
  rw [← hW0]
  clear hW0
  go_region_held3 (fun W => (W.cell? ⟨w.heap.size, 0, none⟩ = some (.int .i64 u) ∧ W.cell? ⟨w.heap.size, 1, none⟩ = some (.int .i64 x) ∧ W.cell? ⟨w.heap.size, 2, none⟩ = some (.int .i64 g) ∧ W.cell? ⟨w.heap.size, 3, none⟩ = some (.int .i64 d) ∧ W.cell? ⟨w.heap.size + 1, 0, none⟩ = some (cv W ⟨w.heap.size + 1, 0, none⟩) ∧ W.frozen? ⟨w.heap.size + 1, 0, none⟩ = false ∧ W.cell? ⟨w.heap.size + 1, 1, none⟩ = some (cv W ⟨w.heap.size + 1, 1, none⟩) ∧ W.frozen? ⟨w.heap.size + 1, 1, none⟩ = false ∧ W.cell? ⟨w.heap.size + 1, 2, none⟩ = some (cv W ⟨w.heap.size + 1, 2, none⟩) ∧ W.frozen? ⟨w.heap.size + 1, 2, none⟩ = false ∧ W.cell? ⟨w.heap.size + 1, 3, none⟩ = some (cv W ⟨w.heap.size + 1, 3, none⟩) ∧ W.frozen? ⟨w.heap.size + 1, 3, none⟩ = false ∧ W.cell? ⟨w.heap.size + 1, 4, none⟩ = some (cv W ⟨w.heap.size + 1, 4, none⟩) ∧ W.frozen? ⟨w.heap.size + 1, 4, none⟩ = false ∧ W.cell? ⟨w.heap.size + 1, 5, none⟩ = some (cv W ⟨w.heap.size + 1, 5, none⟩) ∧ W.frozen? ⟨w.heap.size + 1, 5, none⟩ = false ∧ W.cell? ⟨w.heap.size + 1, 6, none⟩ = some (cv W ⟨w.heap.size + 1, 6, none⟩) ∧ W.frozen? ⟨w.heap.size + 1, 6, none⟩ = false ∧ W.cell? ⟨w.heap.size + 1, 7, none⟩ = some (cv W ⟨w.heap.size + 1, 7, none⟩) ∧ W.frozen? ⟨w.heap.size + 1, 7, none⟩ = false ∧ LedS (w.heap.size + 1) 178 W0 W)) (first | with_reducible exact KS.out _ (by assumption) | with_reducible exact KS.out _ R0.out | with_reducible exact KS.out _ (ST.out _ _ _ _ _ _ _ _ _ (by assumption))) (first | (go_at_call 155; with_reducible refine (CT.out _ _ (PS.out _ (by assumption))).mono ?_; rintro e w' ⟨rfl, hb⟩))
  obtain ⟨h0, b0, b1, b2, b3, b4, b5, b6, b7, hk⟩ := hb.blk
  have HB := Lib.hid (B2.out.trans (h0.mono (by omega)))
  have HK := Lib.hid hk
  clear hk h0
  go_wp2
  exact bodyPost_ret (results_cell_row rfl _ _ (w.heap.size + 1) _ _ (0, 0) _ rfl (blk8_set HK.out _ _ _ _ _ _ _ _) Tryz.underlying178 rfl (by kernel_rfl)) rfl ⟨rfl, below8 HB.out (by omega) _ _ _ _ _ _ _ _⟩



theorem led_cells {W1 : World} {s : Nat} {u x g d : Int} {t : TypeId} (hk : W1.heap[s]? = some (.cells #[.int .i64 u, .int .i64 1000000, .int .i64 x, .int .i64 1000000, .int .i64 g, .int .i64 1000000, .int .i64 d, .int .i64 3] t (0, 0))) : ∀ W, Below (s + 1) W1 W → (W.cell? ⟨s, 0, none⟩ = some (.int .i64 u) ∧ W.cell? ⟨s, 1, none⟩ = some (.int .i64 1000000) ∧ W.cell? ⟨s, 2, none⟩ = some (.int .i64 x) ∧ W.cell? ⟨s, 3, none⟩ = some (.int .i64 1000000) ∧ W.cell? ⟨s, 4, none⟩ = some (.int .i64 g) ∧ W.cell? ⟨s, 5, none⟩ = some (.int .i64 1000000) ∧ W.cell? ⟨s, 6, none⟩ = some (.int .i64 d) ∧ W.cell? ⟨s, 7, none⟩ = some (.int .i64 3)) := fun W hB => ⟨cell_of_row W s 0 _ _ _ ((hB.block s (by omega)).trans hk), cell_of_row W s 1 _ _ _ ((hB.block s (by omega)).trans hk), cell_of_row W s 2 _ _ _ ((hB.block s (by omega)).trans hk), cell_of_row W s 3 _ _ _ ((hB.block s (by omega)).trans hk), cell_of_row W s 4 _ _ _ ((hB.block s (by omega)).trans hk), cell_of_row W s 5 _ _ _ ((hB.block s (by omega)).trans hk), cell_of_row W s 6 _ _ _ ((hB.block s (by omega)).trans hk), cell_of_row W s 7 _ _ _ ((hB.block s (by omega)).trans hk)⟩

theorem implAccountFault_any (u x g d : Int) (w : World) :
    Calls Tryz.prog 80 #[.agg #[.int .i64 u, .int .i64 x, .int .i64 g, .int .i64 d]] w fun e w' => e = .returned (.int .i64 (af u x g d)) ∧ Below w.heap.size w w' := by
  have B1 := Lib.hid (below_new w (.cells #[.int .i64 u, .int .i64 x, .int .i64 g, .int .i64 d] 68))
  have FIN : ∀ (b0 b1 b2 b3 : Bool), inR 0 1000000 u = b0 → inR 0 1000000 x = b1 → inR 0 1000000 g = b2 → inR 0 3 d = b3 → Calls Tryz.prog 80 #[.agg #[.int .i64 u, .int .i64 x, .int .i64 g, .int .i64 d]] w fun e w' => e = .returned (.int .i64 (if b0 && b1 && b2 && b3 then 0 else 3)) ∧ Below w.heap.size w w' := by
    intro b0 b1 b2 b3 i0 i1 i2 i3
    have CA := fits_any u 1000000; have CB := fits_any x 1000000; have CC := fits_any g 1000000; have CD := fits_any d 3
    rw [i0] at CA; rw [i1] at CB; rw [i2] at CC; rw [i3] at CD
    clear i0 i1 i2 i3
    have HA := Lib.hid CA; have HB := Lib.hid CB; have HC := Lib.hid CC; have HD := Lib.hid CD
    clear CA CB CC CD
    rcases b0 with _ | _
    · go_enter Tryz.func80, Tryz.ntmps80
      go_wp2_with fail
      refine (ledgerOf_any u x g d _).mono ?_
      rintro e w1 ⟨rfl, hb⟩
      have hs : w.heap.size < w1.heap.size := by have := hb.size; simp at this; omega
      have BL := Lib.hid ((B1.out.trans (hb.mono (by simp))).alloc (by omega) (.cells #[.int .i64 u, .int .i64 1000000, .int .i64 x, .int .i64 1000000, .int .i64 g, .int .i64 1000000, .int .i64 d, .int .i64 3] 178))
      have KC := Lib.hid (led_cells (heap_alloc_new w1 (.cells #[.int .i64 u, .int .i64 1000000, .int .i64 x, .int .i64 1000000, .int .i64 g, .int .i64 1000000, .int .i64 d, .int .i64 3] 178)))
      have R := Lib.hid (Below.refl (w1.heap.size + 1) (w1.alloc (.cells #[.int .i64 u, .int .i64 1000000, .int .i64 x, .int .i64 1000000, .int .i64 g, .int .i64 1000000, .int .i64 d, .int .i64 3] 178)))
      clear hb
      go_wp2_with fail
      refine (HA.out _).mono ?_
      rintro e wnHA ⟨rfl, hb⟩
      have R := Lib.hid (R.out.trans (hb.mono (by have := R.out.size; first | (simp at this ⊢; omega) | simp | omega)))
      obtain ⟨q0, q1, q2, q3, q4, q5, q6, q7⟩ := KC.out _ R.out
      clear hb
      go_wp2
      go_ret
      exact ⟨rfl, BL.out.trans (R.out.mono (by omega))⟩
    · rcases b1 with _ | _
      · go_enter Tryz.func80, Tryz.ntmps80
        go_wp2_with fail
        refine (ledgerOf_any u x g d _).mono ?_
        rintro e w1 ⟨rfl, hb⟩
        have hs : w.heap.size < w1.heap.size := by have := hb.size; simp at this; omega
        have BL := Lib.hid ((B1.out.trans (hb.mono (by simp))).alloc (by omega) (.cells #[.int .i64 u, .int .i64 1000000, .int .i64 x, .int .i64 1000000, .int .i64 g, .int .i64 1000000, .int .i64 d, .int .i64 3] 178))
        have KC := Lib.hid (led_cells (heap_alloc_new w1 (.cells #[.int .i64 u, .int .i64 1000000, .int .i64 x, .int .i64 1000000, .int .i64 g, .int .i64 1000000, .int .i64 d, .int .i64 3] 178)))
        have R := Lib.hid (Below.refl (w1.heap.size + 1) (w1.alloc (.cells #[.int .i64 u, .int .i64 1000000, .int .i64 x, .int .i64 1000000, .int .i64 g, .int .i64 1000000, .int .i64 d, .int .i64 3] 178)))
        clear hb
        go_wp2_with fail
        refine (HA.out _).mono ?_
        rintro e wnHA ⟨rfl, hb⟩
        have R := Lib.hid (R.out.trans (hb.mono (by have := R.out.size; first | (simp at this ⊢; omega) | simp | omega)))
        obtain ⟨q0, q1, q2, q3, q4, q5, q6, q7⟩ := KC.out _ R.out
        clear hb
        go_wp2_with fail
        refine (HB.out _).mono ?_
        rintro e wnHB ⟨rfl, hb⟩
        have R := Lib.hid (R.out.trans (hb.mono (by have := R.out.size; first | (simp at this ⊢; omega) | simp | omega)))
        obtain ⟨q0, q1, q2, q3, q4, q5, q6, q7⟩ := KC.out _ R.out
        clear hb
        go_wp2
        go_ret
        exact ⟨rfl, BL.out.trans (R.out.mono (by omega))⟩
      · rcases b2 with _ | _
        · go_enter Tryz.func80, Tryz.ntmps80
          go_wp2_with fail
          refine (ledgerOf_any u x g d _).mono ?_
          rintro e w1 ⟨rfl, hb⟩
          have hs : w.heap.size < w1.heap.size := by have := hb.size; simp at this; omega
          have BL := Lib.hid ((B1.out.trans (hb.mono (by simp))).alloc (by omega) (.cells #[.int .i64 u, .int .i64 1000000, .int .i64 x, .int .i64 1000000, .int .i64 g, .int .i64 1000000, .int .i64 d, .int .i64 3] 178))
          have KC := Lib.hid (led_cells (heap_alloc_new w1 (.cells #[.int .i64 u, .int .i64 1000000, .int .i64 x, .int .i64 1000000, .int .i64 g, .int .i64 1000000, .int .i64 d, .int .i64 3] 178)))
          have R := Lib.hid (Below.refl (w1.heap.size + 1) (w1.alloc (.cells #[.int .i64 u, .int .i64 1000000, .int .i64 x, .int .i64 1000000, .int .i64 g, .int .i64 1000000, .int .i64 d, .int .i64 3] 178)))
          clear hb
          go_wp2_with fail
          refine (HA.out _).mono ?_
          rintro e wnHA ⟨rfl, hb⟩
          have R := Lib.hid (R.out.trans (hb.mono (by have := R.out.size; first | (simp at this ⊢; omega) | simp | omega)))
          obtain ⟨q0, q1, q2, q3, q4, q5, q6, q7⟩ := KC.out _ R.out
          clear hb
          go_wp2_with fail
          refine (HB.out _).mono ?_
          rintro e wnHB ⟨rfl, hb⟩
          have R := Lib.hid (R.out.trans (hb.mono (by have := R.out.size; first | (simp at this ⊢; omega) | simp | omega)))
          obtain ⟨q0, q1, q2, q3, q4, q5, q6, q7⟩ := KC.out _ R.out
          clear hb
          go_wp2_with fail
          refine (HC.out _).mono ?_
          rintro e wnHC ⟨rfl, hb⟩
          have R := Lib.hid (R.out.trans (hb.mono (by have := R.out.size; first | (simp at this ⊢; omega) | simp | omega)))
          obtain ⟨q0, q1, q2, q3, q4, q5, q6, q7⟩ := KC.out _ R.out
          clear hb
          go_wp2
          go_ret
          exact ⟨rfl, BL.out.trans (R.out.mono (by omega))⟩
        · rcases b3 with _ | _
          · go_enter Tryz.func80, Tryz.ntmps80
            go_wp2_with fail
            refine (ledgerOf_any u x g d _).mono ?_
            rintro e w1 ⟨rfl, hb⟩
            have hs : w.heap.size < w1.heap.size := by have := hb.size; simp at this; omega
            have BL := Lib.hid ((B1.out.trans (hb.mono (by simp))).alloc (by omega) (.cells #[.int .i64 u, .int .i64 1000000, .int .i64 x, .int .i64 1000000, .int .i64 g, .int .i64 1000000, .int .i64 d, .int .i64 3] 178))
            have KC := Lib.hid (led_cells (heap_alloc_new w1 (.cells #[.int .i64 u, .int .i64 1000000, .int .i64 x, .int .i64 1000000, .int .i64 g, .int .i64 1000000, .int .i64 d, .int .i64 3] 178)))
            have R := Lib.hid (Below.refl (w1.heap.size + 1) (w1.alloc (.cells #[.int .i64 u, .int .i64 1000000, .int .i64 x, .int .i64 1000000, .int .i64 g, .int .i64 1000000, .int .i64 d, .int .i64 3] 178)))
            clear hb
            go_wp2_with fail
            refine (HA.out _).mono ?_
            rintro e wnHA ⟨rfl, hb⟩
            have R := Lib.hid (R.out.trans (hb.mono (by have := R.out.size; first | (simp at this ⊢; omega) | simp | omega)))
            obtain ⟨q0, q1, q2, q3, q4, q5, q6, q7⟩ := KC.out _ R.out
            clear hb
            go_wp2_with fail
            refine (HB.out _).mono ?_
            rintro e wnHB ⟨rfl, hb⟩
            have R := Lib.hid (R.out.trans (hb.mono (by have := R.out.size; first | (simp at this ⊢; omega) | simp | omega)))
            obtain ⟨q0, q1, q2, q3, q4, q5, q6, q7⟩ := KC.out _ R.out
            clear hb
            go_wp2_with fail
            refine (HC.out _).mono ?_
            rintro e wnHC ⟨rfl, hb⟩
            have R := Lib.hid (R.out.trans (hb.mono (by have := R.out.size; first | (simp at this ⊢; omega) | simp | omega)))
            obtain ⟨q0, q1, q2, q3, q4, q5, q6, q7⟩ := KC.out _ R.out
            clear hb
            go_wp2_with fail
            refine (HD.out _).mono ?_
            rintro e wnHD ⟨rfl, hb⟩
            have R := Lib.hid (R.out.trans (hb.mono (by have := R.out.size; first | (simp at this ⊢; omega) | simp | omega)))
            obtain ⟨q0, q1, q2, q3, q4, q5, q6, q7⟩ := KC.out _ R.out
            clear hb
            go_wp2
            go_ret
            exact ⟨rfl, BL.out.trans (R.out.mono (by omega))⟩
          · go_enter Tryz.func80, Tryz.ntmps80
            go_wp2_with fail
            refine (ledgerOf_any u x g d _).mono ?_
            rintro e w1 ⟨rfl, hb⟩
            have hs : w.heap.size < w1.heap.size := by have := hb.size; simp at this; omega
            have BL := Lib.hid ((B1.out.trans (hb.mono (by simp))).alloc (by omega) (.cells #[.int .i64 u, .int .i64 1000000, .int .i64 x, .int .i64 1000000, .int .i64 g, .int .i64 1000000, .int .i64 d, .int .i64 3] 178))
            have KC := Lib.hid (led_cells (heap_alloc_new w1 (.cells #[.int .i64 u, .int .i64 1000000, .int .i64 x, .int .i64 1000000, .int .i64 g, .int .i64 1000000, .int .i64 d, .int .i64 3] 178)))
            have R := Lib.hid (Below.refl (w1.heap.size + 1) (w1.alloc (.cells #[.int .i64 u, .int .i64 1000000, .int .i64 x, .int .i64 1000000, .int .i64 g, .int .i64 1000000, .int .i64 d, .int .i64 3] 178)))
            clear hb
            go_wp2_with fail
            refine (HA.out _).mono ?_
            rintro e wnHA ⟨rfl, hb⟩
            have R := Lib.hid (R.out.trans (hb.mono (by have := R.out.size; first | (simp at this ⊢; omega) | simp | omega)))
            obtain ⟨q0, q1, q2, q3, q4, q5, q6, q7⟩ := KC.out _ R.out
            clear hb
            go_wp2_with fail
            refine (HB.out _).mono ?_
            rintro e wnHB ⟨rfl, hb⟩
            have R := Lib.hid (R.out.trans (hb.mono (by have := R.out.size; first | (simp at this ⊢; omega) | simp | omega)))
            obtain ⟨q0, q1, q2, q3, q4, q5, q6, q7⟩ := KC.out _ R.out
            clear hb
            go_wp2_with fail
            refine (HC.out _).mono ?_
            rintro e wnHC ⟨rfl, hb⟩
            have R := Lib.hid (R.out.trans (hb.mono (by have := R.out.size; first | (simp at this ⊢; omega) | simp | omega)))
            obtain ⟨q0, q1, q2, q3, q4, q5, q6, q7⟩ := KC.out _ R.out
            clear hb
            go_wp2_with fail
            refine (HD.out _).mono ?_
            rintro e wnHD ⟨rfl, hb⟩
            have R := Lib.hid (R.out.trans (hb.mono (by have := R.out.size; first | (simp at this ⊢; omega) | simp | omega)))
            obtain ⟨q0, q1, q2, q3, q4, q5, q6, q7⟩ := KC.out _ R.out
            clear hb
            go_wp2
            go_ret
            exact ⟨rfl, BL.out.trans (R.out.mono (by omega))⟩
  have e : af u x g d = if inR 0 1000000 u && inR 0 1000000 x && inR 0 1000000 g && inR 0 3 d then 0 else 3 := by
    unfold af inR
    simp only [← Bool.decide_and, decide_eq_true_eq, and_assoc]
  rw [e]
  exact FIN _ _ _ _ rfl rfl rfl rfl

theorem implUseTick_any (u x g d : Int) (late : Bool) (w : World) :
    Calls Tryz.prog 166 #[.agg #[.int .i64 u, .int .i64 x, .int .i64 g, .int .i64 d], .bool late] w fun e w' => e = .returned (rv2 (use2 u x g d late)) ∧ Below w.heap.size w w' := by
  have B2 : Hid (Below w.heap.size w ((w.alloc (.cells #[.int .i64 u, .int .i64 x, .int .i64 g, .int .i64 d] 68)).alloc (.cells #[.int .i64 0, .int .i64 0, .int .i64 0, .int .i64 0, .int .i64 0, .bool false] 163))) := (below_new w _).alloc (by simp) _
  have K1 : Hid (((w.alloc (.cells #[.int .i64 u, .int .i64 x, .int .i64 g, .int .i64 d] 68)).alloc (.cells #[.int .i64 0, .int .i64 0, .int .i64 0, .int .i64 0, .int .i64 0, .bool false] 163)).heap[w.heap.size]? = some (.cells #[.int .i64 u, .int .i64 x, .int .i64 g, .int .i64 d] 68 (0, 0))) := heap_alloc2_old w _ _
  have K2 : Hid (((w.alloc (.cells #[.int .i64 u, .int .i64 x, .int .i64 g, .int .i64 d] 68)).alloc (.cells #[.int .i64 0, .int .i64 0, .int .i64 0, .int .i64 0, .int .i64 0, .bool false] 163)).heap[w.heap.size + 1]? = some (.cells #[.int .i64 0, .int .i64 0, .int .i64 0, .int .i64 0, .int .i64 0, .bool false] 163 (0, 0))) := heap_alloc2_new w _ _
  have C := Lib.hid (implAccountFault_any u x g d ((w.alloc (.cells #[.int .i64 u, .int .i64 x, .int .i64 g, .int .i64 d] 68)).alloc (.cells #[.int .i64 0, .int .i64 0, .int .i64 0, .int .i64 0, .int .i64 0, .bool false] 163)))
  by_cases hv : af u x g d = 0
  case neg =>
    have hv' : (af u x g d != 0) = true := by simp [hv]
    have HV := Lib.hid hv
    clear hv
    go_enter Tryz.func166, Tryz.ntmps166
    go_wp2_with fail
    refine C.out.mono ?_
    rintro e w1 ⟨rfl, hb⟩
    have s1 : w.heap.size + 1 < w1.heap.size := by have := hb.size; simp at this; omega
    have k1 := (hb.block w.heap.size (by simp; omega)).trans K1.out
    have k2 := (hb.block (w.heap.size + 1) (by simp)).trans K2.out
    have HB := Lib.hid (B2.out.trans (hb.mono (by simp; omega)))
    have q0 := cell_of_row w1 _ 0 _ _ _ k1
    have q1 := cell_of_row w1 _ 1 _ _ _ k1
    have q2 := cell_of_row w1 _ 2 _ _ _ k1
    have q3 := cell_of_row w1 _ 3 _ _ _ k1
    simp at q0 q1 q2 q3
    have r0 := cell_of_row w1 _ 0 _ _ _ k2
    have e0 := frozen_of_row w1 _ 0 _ _ k2
    have r1 := cell_of_row w1 _ 1 _ _ _ k2
    have e1 := frozen_of_row w1 _ 1 _ _ k2
    have r2 := cell_of_row w1 _ 2 _ _ _ k2
    have e2 := frozen_of_row w1 _ 2 _ _ k2
    have r3 := cell_of_row w1 _ 3 _ _ _ k2
    have e3 := frozen_of_row w1 _ 3 _ _ k2
    have r4 := cell_of_row w1 _ 4 _ _ _ k2
    have e4 := frozen_of_row w1 _ 4 _ _ k2
    have r5 := cell_of_row w1 _ 5 _ _ _ k2
    have e5 := frozen_of_row w1 _ 5 _ _ k2
    simp at r0 r1 r2 r3 r4 r5
    have HK := Lib.hid k2
    clear hb k1 k2 C K1 K2
    go_wp2
    refine bodyPost_ret (results_cell_row rfl _ _ (w.heap.size + 1) _ _ (0, 0) _ rfl (blk6_set HK.out _ _ _ _ _ _) Tryz.underlying163 rfl (by kernel_rfl)) rfl ⟨?_, below6 HB.out (by omega) _ _ _ _ _ _⟩
    rw [show use2 u x g d late = (af u x g d, 0, 0, 0, 0, false) by unfold use2; rw [if_pos HV.out], rv_eq]
  have hv' : (af u x g d != 0) = false := by simp [hv]
  obtain ⟨⟨u0, u1⟩, ⟨x0, x1⟩, ⟨g0, g1⟩, ⟨d0, d1⟩⟩ := af_zero hv
  have HV := Lib.hid hv
  clear hv
  cases late
  · by_cases hq : 1000000 ≤ u
    · go_enter Tryz.func166, Tryz.ntmps166
      go_wp2_with fail
      refine C.out.mono ?_
      rintro e w1 ⟨rfl, hb⟩
      have s1 : w.heap.size + 1 < w1.heap.size := by have := hb.size; simp at this; omega
      have k1 := (hb.block w.heap.size (by simp; omega)).trans K1.out
      have k2 := (hb.block (w.heap.size + 1) (by simp)).trans K2.out
      have HB := Lib.hid (B2.out.trans (hb.mono (by simp; omega)))
      have q0 := cell_of_row w1 _ 0 _ _ _ k1
      have q1 := cell_of_row w1 _ 1 _ _ _ k1
      have q2 := cell_of_row w1 _ 2 _ _ _ k1
      have q3 := cell_of_row w1 _ 3 _ _ _ k1
      simp at q0 q1 q2 q3
      have k2' := Lib.hid k2
      have HB1 := Lib.hid HB.out
      clear hb k1 k2 C K1 K2 HB
      go_wp2_with fail
      refine (ledgerOf_any u x g d _).mono ?_
      rintro e w2 ⟨rfl, hb⟩
      have s2 : w1.heap.size ≤ w2.heap.size := hb.size
      have HB2 := Lib.hid ((HB1.out.trans (hb.mono (by omega))).alloc (by omega) (.cells #[.int .i64 u, .int .i64 1000000, .int .i64 x, .int .i64 1000000, .int .i64 g, .int .i64 1000000, .int .i64 d, .int .i64 3] 178))
      have HK2 := Lib.hid ((Below.heap_alloc w2 (.cells #[.int .i64 u, .int .i64 1000000, .int .i64 x, .int .i64 1000000, .int .i64 g, .int .i64 1000000, .int .i64 d, .int .i64 3] 178) (w.heap.size + 1) (by omega)).trans ((hb.block (w.heap.size + 1) s1).trans k2'.out))
      have HL := Lib.hid (heap_alloc_new w2 (.cells #[.int .i64 u, .int .i64 1000000, .int .i64 x, .int .i64 1000000, .int .i64 g, .int .i64 1000000, .int .i64 d, .int .i64 3] 178))
      clear hb k2' HB1
      go_wp2_with fail
      refine (add_full w2.heap.size 0 u 1000000 _ (by omega) (cell_of_row _ _ 0 _ _ _ HL.out) (cell_of_row _ _ 1 _ _ _ HL.out)).mono ?_
      rintro e w4 ⟨rfl, n, hw4⟩
      have k4 : w4.heap[w2.heap.size]? = some (.cells #[.int .i64 u, .int .i64 1000000, .int .i64 x, .int .i64 1000000, .int .i64 g, .int .i64 1000000, .int .i64 d, .int .i64 3] 178 (0, 0)) := by rw [hw4]; exact HL.out
      have k2 : w4.heap[w.heap.size + 1]? = some (.cells #[.int .i64 0, .int .i64 0, .int .i64 0, .int .i64 0, .int .i64 0, .bool false] 163 (0, 0)) := by rw [hw4]; exact HK2.out
      have HB := Lib.hid (show Below w.heap.size w w4 by rw [hw4]; exact below_drewN HB2.out n)
      have s4 : w2.heap.size < w4.heap.size := (Array.getElem?_eq_some_iff.1 k4).1
      have c0 := cell_of_row w4 _ 0 _ _ _ k4
      have c1 := cell_of_row w4 _ 1 _ _ _ k4
      have c2 := cell_of_row w4 _ 2 _ _ _ k4
      have c3 := cell_of_row w4 _ 3 _ _ _ k4
      have c4 := cell_of_row w4 _ 4 _ _ _ k4
      have c5 := cell_of_row w4 _ 5 _ _ _ k4
      have c6 := cell_of_row w4 _ 6 _ _ _ k4
      have c7 := cell_of_row w4 _ 7 _ _ _ k4
      simp at c0 c1 c2 c3 c4 c5 c6 c7
      have HK4 := Lib.hid k2
      clear hw4 k4 k2 HB2 HK2 HL
      go_wp2_with fail
      refine (answer_bad 8 u x g d 1000000 1000000 1000000 3 _ rfl).mono ?_
      rintro e w5 ⟨rfl, hb⟩
      have k2 := (hb.block (w.heap.size + 1) (by omega)).trans HK4.out
      have HBB := Lib.hid (HB.out.trans (hb.mono (by omega)))
      have r0 := cell_of_row w5 _ 0 _ _ _ k2
      have e0 := frozen_of_row w5 _ 0 _ _ k2
      have r1 := cell_of_row w5 _ 1 _ _ _ k2
      have e1 := frozen_of_row w5 _ 1 _ _ k2
      have r2 := cell_of_row w5 _ 2 _ _ _ k2
      have e2 := frozen_of_row w5 _ 2 _ _ k2
      have r3 := cell_of_row w5 _ 3 _ _ _ k2
      have e3 := frozen_of_row w5 _ 3 _ _ k2
      have r4 := cell_of_row w5 _ 4 _ _ _ k2
      have e4 := frozen_of_row w5 _ 4 _ _ k2
      have r5 := cell_of_row w5 _ 5 _ _ _ k2
      have e5 := frozen_of_row w5 _ 5 _ _ k2
      simp at r0 r1 r2 r3 r4 r5
      have HK := Lib.hid k2
      clear hb k2 HK4
      go_wp2
      refine bodyPost_ret (results_cell_row rfl _ _ (w.heap.size + 1) _ _ (0, 0) _ rfl (blk6_set HK.out _ _ _ _ _ _) Tryz.underlying163 rfl (by kernel_rfl)) rfl ⟨?_, below6 HBB.out (by omega) _ _ _ _ _ _⟩
      rw [show use2 u x g d false = (8, 0, 0, 0, 0, false) by unfold use2; rw [if_neg (by rw [HV.out]; simp), if_neg (by simp), if_pos hq], rv_eq]
    · go_enter Tryz.func166, Tryz.ntmps166
      go_wp2_with fail
      refine C.out.mono ?_
      rintro e w1 ⟨rfl, hb⟩
      have s1 : w.heap.size + 1 < w1.heap.size := by have := hb.size; simp at this; omega
      have k1 := (hb.block w.heap.size (by simp; omega)).trans K1.out
      have k2 := (hb.block (w.heap.size + 1) (by simp)).trans K2.out
      have HB := Lib.hid (B2.out.trans (hb.mono (by simp; omega)))
      have q0 := cell_of_row w1 _ 0 _ _ _ k1
      have q1 := cell_of_row w1 _ 1 _ _ _ k1
      have q2 := cell_of_row w1 _ 2 _ _ _ k1
      have q3 := cell_of_row w1 _ 3 _ _ _ k1
      simp at q0 q1 q2 q3
      have k2' := Lib.hid k2
      have HB1 := Lib.hid HB.out
      clear hb k1 k2 C K1 K2 HB
      go_wp2_with fail
      refine (ledgerOf_any u x g d _).mono ?_
      rintro e w2 ⟨rfl, hb⟩
      have s2 : w1.heap.size ≤ w2.heap.size := hb.size
      have HB2 := Lib.hid ((HB1.out.trans (hb.mono (by omega))).alloc (by omega) (.cells #[.int .i64 u, .int .i64 1000000, .int .i64 x, .int .i64 1000000, .int .i64 g, .int .i64 1000000, .int .i64 d, .int .i64 3] 178))
      have HK2 := Lib.hid ((Below.heap_alloc w2 (.cells #[.int .i64 u, .int .i64 1000000, .int .i64 x, .int .i64 1000000, .int .i64 g, .int .i64 1000000, .int .i64 d, .int .i64 3] 178) (w.heap.size + 1) (by omega)).trans ((hb.block (w.heap.size + 1) s1).trans k2'.out))
      have HL := Lib.hid (heap_alloc_new w2 (.cells #[.int .i64 u, .int .i64 1000000, .int .i64 x, .int .i64 1000000, .int .i64 g, .int .i64 1000000, .int .i64 d, .int .i64 3] 178))
      clear hb k2' HB1
      go_wp2_with fail
      refine (add_room w2.heap.size 0 u 1000000 _ (by omega) (by omega) (cell_of_row _ _ 0 _ _ _ HL.out) (cell_of_row _ _ 1 _ _ _ HL.out) (frozen_of_row _ _ 0 _ _ HL.out) (by omega)).mono ?_
      rintro e w4 ⟨rfl, n, hw4⟩
      have k4 : w4.heap[w2.heap.size]? = some (.cells #[.int .i64 (u + 1), .int .i64 1000000, .int .i64 x, .int .i64 1000000, .int .i64 g, .int .i64 1000000, .int .i64 d, .int .i64 3] 178 (0, 0)) := by rw [hw4]; exact heap_setCell_same (w2.alloc (.cells #[.int .i64 u, .int .i64 1000000, .int .i64 x, .int .i64 1000000, .int .i64 g, .int .i64 1000000, .int .i64 d, .int .i64 3] 178)) w2.heap.size 0 _ _ _ HL.out
      have k2 : w4.heap[w.heap.size + 1]? = some (.cells #[.int .i64 0, .int .i64 0, .int .i64 0, .int .i64 0, .int .i64 0, .bool false] 163 (0, 0)) := by rw [hw4]; exact (Below.heap_setCell (w2.alloc (.cells #[.int .i64 u, .int .i64 1000000, .int .i64 x, .int .i64 1000000, .int .i64 g, .int .i64 1000000, .int .i64 d, .int .i64 3] 178)) ⟨w2.heap.size, 0, none⟩ _ (w.heap.size + 1) (by simp; omega)).trans HK2.out
      have HB := Lib.hid (show Below w.heap.size w w4 by rw [hw4]; exact below_drewN (HB2.out.setCell (p := ⟨w2.heap.size, 0, none⟩) (by simp; omega) _) n)
      have s4 : w2.heap.size < w4.heap.size := (Array.getElem?_eq_some_iff.1 k4).1
      have c0 := cell_of_row w4 _ 0 _ _ _ k4
      have c1 := cell_of_row w4 _ 1 _ _ _ k4
      have c2 := cell_of_row w4 _ 2 _ _ _ k4
      have c3 := cell_of_row w4 _ 3 _ _ _ k4
      have c4 := cell_of_row w4 _ 4 _ _ _ k4
      have c5 := cell_of_row w4 _ 5 _ _ _ k4
      have c6 := cell_of_row w4 _ 6 _ _ _ k4
      have c7 := cell_of_row w4 _ 7 _ _ _ k4
      simp at c0 c1 c2 c3 c4 c5 c6 c7
      have HK4 := Lib.hid k2
      clear hw4 k4 k2 HB2 HK2 HL
      go_wp2_with fail
      refine (answer_ok (u + 1) x g d 1000000 1000000 1000000 3 _).mono ?_
      rintro e w5 ⟨rfl, hb⟩
      have k2 := (hb.block (w.heap.size + 1) (by omega)).trans HK4.out
      have HBB := Lib.hid (HB.out.trans (hb.mono (by omega)))
      have r0 := cell_of_row w5 _ 0 _ _ _ k2
      have e0 := frozen_of_row w5 _ 0 _ _ k2
      have r1 := cell_of_row w5 _ 1 _ _ _ k2
      have e1 := frozen_of_row w5 _ 1 _ _ k2
      have r2 := cell_of_row w5 _ 2 _ _ _ k2
      have e2 := frozen_of_row w5 _ 2 _ _ k2
      have r3 := cell_of_row w5 _ 3 _ _ _ k2
      have e3 := frozen_of_row w5 _ 3 _ _ k2
      have r4 := cell_of_row w5 _ 4 _ _ _ k2
      have e4 := frozen_of_row w5 _ 4 _ _ k2
      have r5 := cell_of_row w5 _ 5 _ _ _ k2
      have e5 := frozen_of_row w5 _ 5 _ _ k2
      simp at r0 r1 r2 r3 r4 r5
      have HK := Lib.hid k2
      clear hb k2 HK4
      go_wp2
      refine bodyPost_ret (results_cell_row rfl _ _ (w.heap.size + 1) _ _ (0, 0) _ rfl (blk6_set HK.out _ _ _ _ _ _) Tryz.underlying163 rfl (by kernel_rfl)) rfl ⟨?_, below6 HBB.out (by omega) _ _ _ _ _ _⟩
      rw [show use2 u x g d false = (0, u + 1, x, g, d, false) by unfold use2; rw [if_neg (by rw [HV.out]; simp), if_neg (by simp), if_neg (by omega)], rv_eq]
  · by_cases hq : 1000000 ≤ x
    · go_enter Tryz.func166, Tryz.ntmps166
      go_wp2_with fail
      refine C.out.mono ?_
      rintro e w1 ⟨rfl, hb⟩
      have s1 : w.heap.size + 1 < w1.heap.size := by have := hb.size; simp at this; omega
      have k1 := (hb.block w.heap.size (by simp; omega)).trans K1.out
      have k2 := (hb.block (w.heap.size + 1) (by simp)).trans K2.out
      have HB := Lib.hid (B2.out.trans (hb.mono (by simp; omega)))
      have q0 := cell_of_row w1 _ 0 _ _ _ k1
      have q1 := cell_of_row w1 _ 1 _ _ _ k1
      have q2 := cell_of_row w1 _ 2 _ _ _ k1
      have q3 := cell_of_row w1 _ 3 _ _ _ k1
      simp at q0 q1 q2 q3
      have k2' := Lib.hid k2
      have HB1 := Lib.hid HB.out
      clear hb k1 k2 C K1 K2 HB
      go_wp2_with fail
      refine (ledgerOf_any u x g d _).mono ?_
      rintro e w2 ⟨rfl, hb⟩
      have s2 : w1.heap.size ≤ w2.heap.size := hb.size
      have HB2 := Lib.hid ((HB1.out.trans (hb.mono (by omega))).alloc (by omega) (.cells #[.int .i64 u, .int .i64 1000000, .int .i64 x, .int .i64 1000000, .int .i64 g, .int .i64 1000000, .int .i64 d, .int .i64 3] 178))
      have HK2 := Lib.hid ((Below.heap_alloc w2 (.cells #[.int .i64 u, .int .i64 1000000, .int .i64 x, .int .i64 1000000, .int .i64 g, .int .i64 1000000, .int .i64 d, .int .i64 3] 178) (w.heap.size + 1) (by omega)).trans ((hb.block (w.heap.size + 1) s1).trans k2'.out))
      have HL := Lib.hid (heap_alloc_new w2 (.cells #[.int .i64 u, .int .i64 1000000, .int .i64 x, .int .i64 1000000, .int .i64 g, .int .i64 1000000, .int .i64 d, .int .i64 3] 178))
      clear hb k2' HB1
      go_wp2_with fail
      refine (add_full w2.heap.size 2 x 1000000 _ (by omega) (cell_of_row _ _ 2 _ _ _ HL.out) (cell_of_row _ _ 3 _ _ _ HL.out)).mono ?_
      rintro e w4 ⟨rfl, n, hw4⟩
      have k4 : w4.heap[w2.heap.size]? = some (.cells #[.int .i64 u, .int .i64 1000000, .int .i64 x, .int .i64 1000000, .int .i64 g, .int .i64 1000000, .int .i64 d, .int .i64 3] 178 (0, 0)) := by rw [hw4]; exact HL.out
      have k2 : w4.heap[w.heap.size + 1]? = some (.cells #[.int .i64 0, .int .i64 0, .int .i64 0, .int .i64 0, .int .i64 0, .bool false] 163 (0, 0)) := by rw [hw4]; exact HK2.out
      have HB := Lib.hid (show Below w.heap.size w w4 by rw [hw4]; exact below_drewN HB2.out n)
      have s4 : w2.heap.size < w4.heap.size := (Array.getElem?_eq_some_iff.1 k4).1
      have c0 := cell_of_row w4 _ 0 _ _ _ k4
      have c1 := cell_of_row w4 _ 1 _ _ _ k4
      have c2 := cell_of_row w4 _ 2 _ _ _ k4
      have c3 := cell_of_row w4 _ 3 _ _ _ k4
      have c4 := cell_of_row w4 _ 4 _ _ _ k4
      have c5 := cell_of_row w4 _ 5 _ _ _ k4
      have c6 := cell_of_row w4 _ 6 _ _ _ k4
      have c7 := cell_of_row w4 _ 7 _ _ _ k4
      simp at c0 c1 c2 c3 c4 c5 c6 c7
      have HK4 := Lib.hid k2
      clear hw4 k4 k2 HB2 HK2 HL
      go_wp2_with fail
      refine (answer_bad 8 u x g d 1000000 1000000 1000000 3 _ rfl).mono ?_
      rintro e w5 ⟨rfl, hb⟩
      have k2 := (hb.block (w.heap.size + 1) (by omega)).trans HK4.out
      have HBB := Lib.hid (HB.out.trans (hb.mono (by omega)))
      have r0 := cell_of_row w5 _ 0 _ _ _ k2
      have e0 := frozen_of_row w5 _ 0 _ _ k2
      have r1 := cell_of_row w5 _ 1 _ _ _ k2
      have e1 := frozen_of_row w5 _ 1 _ _ k2
      have r2 := cell_of_row w5 _ 2 _ _ _ k2
      have e2 := frozen_of_row w5 _ 2 _ _ k2
      have r3 := cell_of_row w5 _ 3 _ _ _ k2
      have e3 := frozen_of_row w5 _ 3 _ _ k2
      have r4 := cell_of_row w5 _ 4 _ _ _ k2
      have e4 := frozen_of_row w5 _ 4 _ _ k2
      have r5 := cell_of_row w5 _ 5 _ _ _ k2
      have e5 := frozen_of_row w5 _ 5 _ _ k2
      simp at r0 r1 r2 r3 r4 r5
      have HK := Lib.hid k2
      clear hb k2 HK4
      go_wp2
      refine bodyPost_ret (results_cell_row rfl _ _ (w.heap.size + 1) _ _ (0, 0) _ rfl (blk6_set HK.out _ _ _ _ _ _) Tryz.underlying163 rfl (by kernel_rfl)) rfl ⟨?_, below6 HBB.out (by omega) _ _ _ _ _ _⟩
      rw [show use2 u x g d true = (8, 0, 0, 0, 0, false) by unfold use2; rw [if_neg (by rw [HV.out]; simp), if_pos rfl, if_pos hq], rv_eq]
    · go_enter Tryz.func166, Tryz.ntmps166
      go_wp2_with fail
      refine C.out.mono ?_
      rintro e w1 ⟨rfl, hb⟩
      have s1 : w.heap.size + 1 < w1.heap.size := by have := hb.size; simp at this; omega
      have k1 := (hb.block w.heap.size (by simp; omega)).trans K1.out
      have k2 := (hb.block (w.heap.size + 1) (by simp)).trans K2.out
      have HB := Lib.hid (B2.out.trans (hb.mono (by simp; omega)))
      have q0 := cell_of_row w1 _ 0 _ _ _ k1
      have q1 := cell_of_row w1 _ 1 _ _ _ k1
      have q2 := cell_of_row w1 _ 2 _ _ _ k1
      have q3 := cell_of_row w1 _ 3 _ _ _ k1
      simp at q0 q1 q2 q3
      have k2' := Lib.hid k2
      have HB1 := Lib.hid HB.out
      clear hb k1 k2 C K1 K2 HB
      go_wp2_with fail
      refine (ledgerOf_any u x g d _).mono ?_
      rintro e w2 ⟨rfl, hb⟩
      have s2 : w1.heap.size ≤ w2.heap.size := hb.size
      have HB2 := Lib.hid ((HB1.out.trans (hb.mono (by omega))).alloc (by omega) (.cells #[.int .i64 u, .int .i64 1000000, .int .i64 x, .int .i64 1000000, .int .i64 g, .int .i64 1000000, .int .i64 d, .int .i64 3] 178))
      have HK2 := Lib.hid ((Below.heap_alloc w2 (.cells #[.int .i64 u, .int .i64 1000000, .int .i64 x, .int .i64 1000000, .int .i64 g, .int .i64 1000000, .int .i64 d, .int .i64 3] 178) (w.heap.size + 1) (by omega)).trans ((hb.block (w.heap.size + 1) s1).trans k2'.out))
      have HL := Lib.hid (heap_alloc_new w2 (.cells #[.int .i64 u, .int .i64 1000000, .int .i64 x, .int .i64 1000000, .int .i64 g, .int .i64 1000000, .int .i64 d, .int .i64 3] 178))
      clear hb k2' HB1
      go_wp2_with fail
      refine (add_room w2.heap.size 2 x 1000000 _ (by omega) (by omega) (cell_of_row _ _ 2 _ _ _ HL.out) (cell_of_row _ _ 3 _ _ _ HL.out) (frozen_of_row _ _ 2 _ _ HL.out) (by omega)).mono ?_
      rintro e w4 ⟨rfl, n, hw4⟩
      have k4 : w4.heap[w2.heap.size]? = some (.cells #[.int .i64 u, .int .i64 1000000, .int .i64 (x + 1), .int .i64 1000000, .int .i64 g, .int .i64 1000000, .int .i64 d, .int .i64 3] 178 (0, 0)) := by rw [hw4]; exact heap_setCell_same (w2.alloc (.cells #[.int .i64 u, .int .i64 1000000, .int .i64 x, .int .i64 1000000, .int .i64 g, .int .i64 1000000, .int .i64 d, .int .i64 3] 178)) w2.heap.size 2 _ _ _ HL.out
      have k2 : w4.heap[w.heap.size + 1]? = some (.cells #[.int .i64 0, .int .i64 0, .int .i64 0, .int .i64 0, .int .i64 0, .bool false] 163 (0, 0)) := by rw [hw4]; exact (Below.heap_setCell (w2.alloc (.cells #[.int .i64 u, .int .i64 1000000, .int .i64 x, .int .i64 1000000, .int .i64 g, .int .i64 1000000, .int .i64 d, .int .i64 3] 178)) ⟨w2.heap.size, 2, none⟩ _ (w.heap.size + 1) (by simp; omega)).trans HK2.out
      have HB := Lib.hid (show Below w.heap.size w w4 by rw [hw4]; exact below_drewN (HB2.out.setCell (p := ⟨w2.heap.size, 2, none⟩) (by simp; omega) _) n)
      have s4 : w2.heap.size < w4.heap.size := (Array.getElem?_eq_some_iff.1 k4).1
      have c0 := cell_of_row w4 _ 0 _ _ _ k4
      have c1 := cell_of_row w4 _ 1 _ _ _ k4
      have c2 := cell_of_row w4 _ 2 _ _ _ k4
      have c3 := cell_of_row w4 _ 3 _ _ _ k4
      have c4 := cell_of_row w4 _ 4 _ _ _ k4
      have c5 := cell_of_row w4 _ 5 _ _ _ k4
      have c6 := cell_of_row w4 _ 6 _ _ _ k4
      have c7 := cell_of_row w4 _ 7 _ _ _ k4
      simp at c0 c1 c2 c3 c4 c5 c6 c7
      have HK4 := Lib.hid k2
      clear hw4 k4 k2 HB2 HK2 HL
      go_wp2_with fail
      refine (answer_ok u (x + 1) g d 1000000 1000000 1000000 3 _).mono ?_
      rintro e w5 ⟨rfl, hb⟩
      have k2 := (hb.block (w.heap.size + 1) (by omega)).trans HK4.out
      have HBB := Lib.hid (HB.out.trans (hb.mono (by omega)))
      have r0 := cell_of_row w5 _ 0 _ _ _ k2
      have e0 := frozen_of_row w5 _ 0 _ _ k2
      have r1 := cell_of_row w5 _ 1 _ _ _ k2
      have e1 := frozen_of_row w5 _ 1 _ _ k2
      have r2 := cell_of_row w5 _ 2 _ _ _ k2
      have e2 := frozen_of_row w5 _ 2 _ _ k2
      have r3 := cell_of_row w5 _ 3 _ _ _ k2
      have e3 := frozen_of_row w5 _ 3 _ _ k2
      have r4 := cell_of_row w5 _ 4 _ _ _ k2
      have e4 := frozen_of_row w5 _ 4 _ _ k2
      have r5 := cell_of_row w5 _ 5 _ _ _ k2
      have e5 := frozen_of_row w5 _ 5 _ _ k2
      simp at r0 r1 r2 r3 r4 r5
      have HK := Lib.hid k2
      clear hb k2 HK4
      go_wp2
      refine bodyPost_ret (results_cell_row rfl _ _ (w.heap.size + 1) _ _ (0, 0) _ rfl (blk6_set HK.out _ _ _ _ _ _) Tryz.underlying163 rfl (by kernel_rfl)) rfl ⟨?_, below6 HBB.out (by omega) _ _ _ _ _ _⟩
      rw [show use2 u x g d true = (0, u, x + 1, g, d, false) by unfold use2; rw [if_neg (by rw [HV.out]; simp), if_pos rfl, if_neg (by omega)], rv_eq]

theorem implGiveTick_any (u x g d : Int) (w : World) :
    Calls Tryz.prog 167 #[.agg #[.int .i64 u, .int .i64 x, .int .i64 g, .int .i64 d]] w fun e w' => e = .returned (rv2 (give2 u x g d)) ∧ Below w.heap.size w w' := by
  have B2 : Hid (Below w.heap.size w ((w.alloc (.cells #[.int .i64 u, .int .i64 x, .int .i64 g, .int .i64 d] 68)).alloc (.cells #[.int .i64 0, .int .i64 0, .int .i64 0, .int .i64 0, .int .i64 0, .bool false] 163))) := (below_new w _).alloc (by simp) _
  have K1 : Hid (((w.alloc (.cells #[.int .i64 u, .int .i64 x, .int .i64 g, .int .i64 d] 68)).alloc (.cells #[.int .i64 0, .int .i64 0, .int .i64 0, .int .i64 0, .int .i64 0, .bool false] 163)).heap[w.heap.size]? = some (.cells #[.int .i64 u, .int .i64 x, .int .i64 g, .int .i64 d] 68 (0, 0))) := heap_alloc2_old w _ _
  have K2 : Hid (((w.alloc (.cells #[.int .i64 u, .int .i64 x, .int .i64 g, .int .i64 d] 68)).alloc (.cells #[.int .i64 0, .int .i64 0, .int .i64 0, .int .i64 0, .int .i64 0, .bool false] 163)).heap[w.heap.size + 1]? = some (.cells #[.int .i64 0, .int .i64 0, .int .i64 0, .int .i64 0, .int .i64 0, .bool false] 163 (0, 0))) := heap_alloc2_new w _ _
  have C := Lib.hid (implAccountFault_any u x g d ((w.alloc (.cells #[.int .i64 u, .int .i64 x, .int .i64 g, .int .i64 d] 68)).alloc (.cells #[.int .i64 0, .int .i64 0, .int .i64 0, .int .i64 0, .int .i64 0, .bool false] 163)))
  by_cases hv : af u x g d = 0
  case neg =>
    have hv' : (af u x g d != 0) = true := by simp [hv]
    have HV := Lib.hid hv
    clear hv
    go_enter Tryz.func167, Tryz.ntmps167
    go_wp2_with fail
    refine C.out.mono ?_
    rintro e w1 ⟨rfl, hb⟩
    have s1 : w.heap.size + 1 < w1.heap.size := by have := hb.size; simp at this; omega
    have k1 := (hb.block w.heap.size (by simp; omega)).trans K1.out
    have k2 := (hb.block (w.heap.size + 1) (by simp)).trans K2.out
    have HB := Lib.hid (B2.out.trans (hb.mono (by simp; omega)))
    have q0 := cell_of_row w1 _ 0 _ _ _ k1
    have q1 := cell_of_row w1 _ 1 _ _ _ k1
    have q2 := cell_of_row w1 _ 2 _ _ _ k1
    have q3 := cell_of_row w1 _ 3 _ _ _ k1
    simp at q0 q1 q2 q3
    have r0 := cell_of_row w1 _ 0 _ _ _ k2
    have e0 := frozen_of_row w1 _ 0 _ _ k2
    have r1 := cell_of_row w1 _ 1 _ _ _ k2
    have e1 := frozen_of_row w1 _ 1 _ _ k2
    have r2 := cell_of_row w1 _ 2 _ _ _ k2
    have e2 := frozen_of_row w1 _ 2 _ _ k2
    have r3 := cell_of_row w1 _ 3 _ _ _ k2
    have e3 := frozen_of_row w1 _ 3 _ _ k2
    have r4 := cell_of_row w1 _ 4 _ _ _ k2
    have e4 := frozen_of_row w1 _ 4 _ _ k2
    have r5 := cell_of_row w1 _ 5 _ _ _ k2
    have e5 := frozen_of_row w1 _ 5 _ _ k2
    simp at r0 r1 r2 r3 r4 r5
    have HK := Lib.hid k2
    clear hb k1 k2 C K1 K2
    go_wp2
    refine bodyPost_ret (results_cell_row rfl _ _ (w.heap.size + 1) _ _ (0, 0) _ rfl (blk6_set HK.out _ _ _ _ _ _) Tryz.underlying163 rfl (by kernel_rfl)) rfl ⟨?_, below6 HB.out (by omega) _ _ _ _ _ _⟩
    rw [show give2 u x g d = (af u x g d, 0, 0, 0, 0, false) by unfold give2; rw [if_pos HV.out], rv_eq]
  have hv' : (af u x g d != 0) = false := by simp [hv]
  obtain ⟨⟨u0, u1⟩, ⟨x0, x1⟩, ⟨g0, g1⟩, ⟨d0, d1⟩⟩ := af_zero hv
  have HV := Lib.hid hv
  clear hv
  by_cases hq : 1000000 ≤ g
  · go_enter Tryz.func167, Tryz.ntmps167
    go_wp2_with fail
    refine C.out.mono ?_
    rintro e w1 ⟨rfl, hb⟩
    have s1 : w.heap.size + 1 < w1.heap.size := by have := hb.size; simp at this; omega
    have k1 := (hb.block w.heap.size (by simp; omega)).trans K1.out
    have k2 := (hb.block (w.heap.size + 1) (by simp)).trans K2.out
    have HB := Lib.hid (B2.out.trans (hb.mono (by simp; omega)))
    have q0 := cell_of_row w1 _ 0 _ _ _ k1
    have q1 := cell_of_row w1 _ 1 _ _ _ k1
    have q2 := cell_of_row w1 _ 2 _ _ _ k1
    have q3 := cell_of_row w1 _ 3 _ _ _ k1
    simp at q0 q1 q2 q3
    have k2' := Lib.hid k2
    have HB1 := Lib.hid HB.out
    clear hb k1 k2 C K1 K2 HB
    go_wp2_with fail
    refine (ledgerOf_any u x g d _).mono ?_
    rintro e w2 ⟨rfl, hb⟩
    have s2 : w1.heap.size ≤ w2.heap.size := hb.size
    have HB2 := Lib.hid ((HB1.out.trans (hb.mono (by omega))).alloc (by omega) (.cells #[.int .i64 u, .int .i64 1000000, .int .i64 x, .int .i64 1000000, .int .i64 g, .int .i64 1000000, .int .i64 d, .int .i64 3] 178))
    have HK2 := Lib.hid ((Below.heap_alloc w2 (.cells #[.int .i64 u, .int .i64 1000000, .int .i64 x, .int .i64 1000000, .int .i64 g, .int .i64 1000000, .int .i64 d, .int .i64 3] 178) (w.heap.size + 1) (by omega)).trans ((hb.block (w.heap.size + 1) s1).trans k2'.out))
    have HL := Lib.hid (heap_alloc_new w2 (.cells #[.int .i64 u, .int .i64 1000000, .int .i64 x, .int .i64 1000000, .int .i64 g, .int .i64 1000000, .int .i64 d, .int .i64 3] 178))
    clear hb k2' HB1
    go_wp2_with fail
    refine (add_full w2.heap.size 4 g 1000000 _ (by omega) (cell_of_row _ _ 4 _ _ _ HL.out) (cell_of_row _ _ 5 _ _ _ HL.out)).mono ?_
    rintro e w4 ⟨rfl, n, hw4⟩
    have k4 : w4.heap[w2.heap.size]? = some (.cells #[.int .i64 u, .int .i64 1000000, .int .i64 x, .int .i64 1000000, .int .i64 g, .int .i64 1000000, .int .i64 d, .int .i64 3] 178 (0, 0)) := by rw [hw4]; exact HL.out
    have k2 : w4.heap[w.heap.size + 1]? = some (.cells #[.int .i64 0, .int .i64 0, .int .i64 0, .int .i64 0, .int .i64 0, .bool false] 163 (0, 0)) := by rw [hw4]; exact HK2.out
    have HB := Lib.hid (show Below w.heap.size w w4 by rw [hw4]; exact below_drewN HB2.out n)
    have s4 : w2.heap.size < w4.heap.size := (Array.getElem?_eq_some_iff.1 k4).1
    have c0 := cell_of_row w4 _ 0 _ _ _ k4
    have c1 := cell_of_row w4 _ 1 _ _ _ k4
    have c2 := cell_of_row w4 _ 2 _ _ _ k4
    have c3 := cell_of_row w4 _ 3 _ _ _ k4
    have c4 := cell_of_row w4 _ 4 _ _ _ k4
    have c5 := cell_of_row w4 _ 5 _ _ _ k4
    have c6 := cell_of_row w4 _ 6 _ _ _ k4
    have c7 := cell_of_row w4 _ 7 _ _ _ k4
    simp at c0 c1 c2 c3 c4 c5 c6 c7
    have HK4 := Lib.hid k2
    clear hw4 k4 k2 HB2 HK2 HL
    go_wp2_with fail
    refine (answer_bad 8 u x g d 1000000 1000000 1000000 3 _ rfl).mono ?_
    rintro e w5 ⟨rfl, hb⟩
    have k2 := (hb.block (w.heap.size + 1) (by omega)).trans HK4.out
    have HBB := Lib.hid (HB.out.trans (hb.mono (by omega)))
    have r0 := cell_of_row w5 _ 0 _ _ _ k2
    have e0 := frozen_of_row w5 _ 0 _ _ k2
    have r1 := cell_of_row w5 _ 1 _ _ _ k2
    have e1 := frozen_of_row w5 _ 1 _ _ k2
    have r2 := cell_of_row w5 _ 2 _ _ _ k2
    have e2 := frozen_of_row w5 _ 2 _ _ k2
    have r3 := cell_of_row w5 _ 3 _ _ _ k2
    have e3 := frozen_of_row w5 _ 3 _ _ k2
    have r4 := cell_of_row w5 _ 4 _ _ _ k2
    have e4 := frozen_of_row w5 _ 4 _ _ k2
    have r5 := cell_of_row w5 _ 5 _ _ _ k2
    have e5 := frozen_of_row w5 _ 5 _ _ k2
    simp at r0 r1 r2 r3 r4 r5
    have HK := Lib.hid k2
    clear hb k2 HK4
    go_wp2
    refine bodyPost_ret (results_cell_row rfl _ _ (w.heap.size + 1) _ _ (0, 0) _ rfl (blk6_set HK.out _ _ _ _ _ _) Tryz.underlying163 rfl (by kernel_rfl)) rfl ⟨?_, below6 HBB.out (by omega) _ _ _ _ _ _⟩
    rw [show give2 u x g d = (8, 0, 0, 0, 0, false) by unfold give2; rw [if_neg (by rw [HV.out]; simp), if_pos hq], rv_eq]
  · go_enter Tryz.func167, Tryz.ntmps167
    go_wp2_with fail
    refine C.out.mono ?_
    rintro e w1 ⟨rfl, hb⟩
    have s1 : w.heap.size + 1 < w1.heap.size := by have := hb.size; simp at this; omega
    have k1 := (hb.block w.heap.size (by simp; omega)).trans K1.out
    have k2 := (hb.block (w.heap.size + 1) (by simp)).trans K2.out
    have HB := Lib.hid (B2.out.trans (hb.mono (by simp; omega)))
    have q0 := cell_of_row w1 _ 0 _ _ _ k1
    have q1 := cell_of_row w1 _ 1 _ _ _ k1
    have q2 := cell_of_row w1 _ 2 _ _ _ k1
    have q3 := cell_of_row w1 _ 3 _ _ _ k1
    simp at q0 q1 q2 q3
    have k2' := Lib.hid k2
    have HB1 := Lib.hid HB.out
    clear hb k1 k2 C K1 K2 HB
    go_wp2_with fail
    refine (ledgerOf_any u x g d _).mono ?_
    rintro e w2 ⟨rfl, hb⟩
    have s2 : w1.heap.size ≤ w2.heap.size := hb.size
    have HB2 := Lib.hid ((HB1.out.trans (hb.mono (by omega))).alloc (by omega) (.cells #[.int .i64 u, .int .i64 1000000, .int .i64 x, .int .i64 1000000, .int .i64 g, .int .i64 1000000, .int .i64 d, .int .i64 3] 178))
    have HK2 := Lib.hid ((Below.heap_alloc w2 (.cells #[.int .i64 u, .int .i64 1000000, .int .i64 x, .int .i64 1000000, .int .i64 g, .int .i64 1000000, .int .i64 d, .int .i64 3] 178) (w.heap.size + 1) (by omega)).trans ((hb.block (w.heap.size + 1) s1).trans k2'.out))
    have HL := Lib.hid (heap_alloc_new w2 (.cells #[.int .i64 u, .int .i64 1000000, .int .i64 x, .int .i64 1000000, .int .i64 g, .int .i64 1000000, .int .i64 d, .int .i64 3] 178))
    clear hb k2' HB1
    go_wp2_with fail
    refine (add_room w2.heap.size 4 g 1000000 _ (by omega) (by omega) (cell_of_row _ _ 4 _ _ _ HL.out) (cell_of_row _ _ 5 _ _ _ HL.out) (frozen_of_row _ _ 4 _ _ HL.out) (by omega)).mono ?_
    rintro e w4 ⟨rfl, n, hw4⟩
    have k4 : w4.heap[w2.heap.size]? = some (.cells #[.int .i64 u, .int .i64 1000000, .int .i64 x, .int .i64 1000000, .int .i64 (g + 1), .int .i64 1000000, .int .i64 d, .int .i64 3] 178 (0, 0)) := by rw [hw4]; exact heap_setCell_same (w2.alloc (.cells #[.int .i64 u, .int .i64 1000000, .int .i64 x, .int .i64 1000000, .int .i64 g, .int .i64 1000000, .int .i64 d, .int .i64 3] 178)) w2.heap.size 4 _ _ _ HL.out
    have k2 : w4.heap[w.heap.size + 1]? = some (.cells #[.int .i64 0, .int .i64 0, .int .i64 0, .int .i64 0, .int .i64 0, .bool false] 163 (0, 0)) := by rw [hw4]; exact (Below.heap_setCell (w2.alloc (.cells #[.int .i64 u, .int .i64 1000000, .int .i64 x, .int .i64 1000000, .int .i64 g, .int .i64 1000000, .int .i64 d, .int .i64 3] 178)) ⟨w2.heap.size, 4, none⟩ _ (w.heap.size + 1) (by simp; omega)).trans HK2.out
    have HB := Lib.hid (show Below w.heap.size w w4 by rw [hw4]; exact below_drewN (HB2.out.setCell (p := ⟨w2.heap.size, 4, none⟩) (by simp; omega) _) n)
    have s4 : w2.heap.size < w4.heap.size := (Array.getElem?_eq_some_iff.1 k4).1
    have c0 := cell_of_row w4 _ 0 _ _ _ k4
    have c1 := cell_of_row w4 _ 1 _ _ _ k4
    have c2 := cell_of_row w4 _ 2 _ _ _ k4
    have c3 := cell_of_row w4 _ 3 _ _ _ k4
    have c4 := cell_of_row w4 _ 4 _ _ _ k4
    have c5 := cell_of_row w4 _ 5 _ _ _ k4
    have c6 := cell_of_row w4 _ 6 _ _ _ k4
    have c7 := cell_of_row w4 _ 7 _ _ _ k4
    simp at c0 c1 c2 c3 c4 c5 c6 c7
    have HK4 := Lib.hid k2
    clear hw4 k4 k2 HB2 HK2 HL
    go_wp2_with fail
    refine (answer_ok u x (g + 1) d 1000000 1000000 1000000 3 _).mono ?_
    rintro e w5 ⟨rfl, hb⟩
    have k2 := (hb.block (w.heap.size + 1) (by omega)).trans HK4.out
    have HBB := Lib.hid (HB.out.trans (hb.mono (by omega)))
    have r0 := cell_of_row w5 _ 0 _ _ _ k2
    have e0 := frozen_of_row w5 _ 0 _ _ k2
    have r1 := cell_of_row w5 _ 1 _ _ _ k2
    have e1 := frozen_of_row w5 _ 1 _ _ k2
    have r2 := cell_of_row w5 _ 2 _ _ _ k2
    have e2 := frozen_of_row w5 _ 2 _ _ k2
    have r3 := cell_of_row w5 _ 3 _ _ _ k2
    have e3 := frozen_of_row w5 _ 3 _ _ k2
    have r4 := cell_of_row w5 _ 4 _ _ _ k2
    have e4 := frozen_of_row w5 _ 4 _ _ k2
    have r5 := cell_of_row w5 _ 5 _ _ _ k2
    have e5 := frozen_of_row w5 _ 5 _ _ k2
    simp at r0 r1 r2 r3 r4 r5
    have HK := Lib.hid k2
    clear hb k2 HK4
    go_wp2
    refine bodyPost_ret (results_cell_row rfl _ _ (w.heap.size + 1) _ _ (0, 0) _ rfl (blk6_set HK.out _ _ _ _ _ _) Tryz.underlying163 rfl (by kernel_rfl)) rfl ⟨?_, below6 HBB.out (by omega) _ _ _ _ _ _⟩
    rw [show give2 u x g d = (0, u, x, g + 1, d, false) by unfold give2; rw [if_neg (by rw [HV.out]; simp), if_neg (by omega)], rv_eq]

theorem implPunishAccount_any (u x g d : Int) (w : World) :
    Calls Tryz.prog 150 #[.agg #[.int .i64 u, .int .i64 x, .int .i64 g, .int .i64 d]] w fun e w' => e = .returned (rv2 (pun2 u x g d)) ∧ Below w.heap.size w w' := by
  have B2 : Hid (Below w.heap.size w ((w.alloc (.cells #[.int .i64 u, .int .i64 x, .int .i64 g, .int .i64 d] 68)).alloc (.cells #[.int .i64 0, .int .i64 0, .int .i64 0, .int .i64 0, .int .i64 0, .bool false] 163))) := (below_new w _).alloc (by simp) _
  have K1 : Hid (((w.alloc (.cells #[.int .i64 u, .int .i64 x, .int .i64 g, .int .i64 d] 68)).alloc (.cells #[.int .i64 0, .int .i64 0, .int .i64 0, .int .i64 0, .int .i64 0, .bool false] 163)).heap[w.heap.size]? = some (.cells #[.int .i64 u, .int .i64 x, .int .i64 g, .int .i64 d] 68 (0, 0))) := heap_alloc2_old w _ _
  have K2 : Hid (((w.alloc (.cells #[.int .i64 u, .int .i64 x, .int .i64 g, .int .i64 d] 68)).alloc (.cells #[.int .i64 0, .int .i64 0, .int .i64 0, .int .i64 0, .int .i64 0, .bool false] 163)).heap[w.heap.size + 1]? = some (.cells #[.int .i64 0, .int .i64 0, .int .i64 0, .int .i64 0, .int .i64 0, .bool false] 163 (0, 0))) := heap_alloc2_new w _ _
  have C := Lib.hid (implAccountFault_any u x g d ((w.alloc (.cells #[.int .i64 u, .int .i64 x, .int .i64 g, .int .i64 d] 68)).alloc (.cells #[.int .i64 0, .int .i64 0, .int .i64 0, .int .i64 0, .int .i64 0, .bool false] 163)))
  by_cases hv : af u x g d = 0
  case neg =>
    have hv' : (af u x g d != 0) = true := by simp [hv]
    have HV := Lib.hid hv
    clear hv
    go_enter Tryz.func150, Tryz.ntmps150
    go_wp2_with fail
    refine C.out.mono ?_
    rintro e w1 ⟨rfl, hb⟩
    have s1 : w.heap.size + 1 < w1.heap.size := by have := hb.size; simp at this; omega
    have k1 := (hb.block w.heap.size (by simp; omega)).trans K1.out
    have k2 := (hb.block (w.heap.size + 1) (by simp)).trans K2.out
    have HB := Lib.hid (B2.out.trans (hb.mono (by simp; omega)))
    have q0 := cell_of_row w1 _ 0 _ _ _ k1
    have q1 := cell_of_row w1 _ 1 _ _ _ k1
    have q2 := cell_of_row w1 _ 2 _ _ _ k1
    have q3 := cell_of_row w1 _ 3 _ _ _ k1
    simp at q0 q1 q2 q3
    have r0 := cell_of_row w1 _ 0 _ _ _ k2
    have e0 := frozen_of_row w1 _ 0 _ _ k2
    have r1 := cell_of_row w1 _ 1 _ _ _ k2
    have e1 := frozen_of_row w1 _ 1 _ _ k2
    have r2 := cell_of_row w1 _ 2 _ _ _ k2
    have e2 := frozen_of_row w1 _ 2 _ _ k2
    have r3 := cell_of_row w1 _ 3 _ _ _ k2
    have e3 := frozen_of_row w1 _ 3 _ _ k2
    have r4 := cell_of_row w1 _ 4 _ _ _ k2
    have e4 := frozen_of_row w1 _ 4 _ _ k2
    have r5 := cell_of_row w1 _ 5 _ _ _ k2
    have e5 := frozen_of_row w1 _ 5 _ _ k2
    simp at r0 r1 r2 r3 r4 r5
    have HK := Lib.hid k2
    clear hb k1 k2 C K1 K2
    go_wp2
    refine bodyPost_ret (results_cell_row rfl _ _ (w.heap.size + 1) _ _ (0, 0) _ rfl (blk6_set HK.out _ _ _ _ _ _) Tryz.underlying163 rfl (by kernel_rfl)) rfl ⟨?_, below6 HB.out (by omega) _ _ _ _ _ _⟩
    rw [show pun2 u x g d = (af u x g d, 0, 0, 0, 0, false) by unfold pun2; rw [if_pos HV.out], rv_eq]
  have hv' : (af u x g d != 0) = false := by simp [hv]
  obtain ⟨⟨u0, u1⟩, ⟨x0, x1⟩, ⟨g0, g1⟩, ⟨d0, d1⟩⟩ := af_zero hv
  have HV := Lib.hid hv
  clear hv
  by_cases hq : 3 ≤ d
  · go_enter Tryz.func150, Tryz.ntmps150
    go_wp2_with fail
    refine C.out.mono ?_
    rintro e w1 ⟨rfl, hb⟩
    have s1 : w.heap.size + 1 < w1.heap.size := by have := hb.size; simp at this; omega
    have k1 := (hb.block w.heap.size (by simp; omega)).trans K1.out
    have k2 := (hb.block (w.heap.size + 1) (by simp)).trans K2.out
    have HB := Lib.hid (B2.out.trans (hb.mono (by simp; omega)))
    have q0 := cell_of_row w1 _ 0 _ _ _ k1
    have q1 := cell_of_row w1 _ 1 _ _ _ k1
    have q2 := cell_of_row w1 _ 2 _ _ _ k1
    have q3 := cell_of_row w1 _ 3 _ _ _ k1
    simp at q0 q1 q2 q3
    have k2' := Lib.hid k2
    have HB1 := Lib.hid HB.out
    clear hb k1 k2 C K1 K2 HB
    go_wp2_with fail
    refine (ledgerOf_any u x g d _).mono ?_
    rintro e w2 ⟨rfl, hb⟩
    have s2 : w1.heap.size ≤ w2.heap.size := hb.size
    have HB2 := Lib.hid ((HB1.out.trans (hb.mono (by omega))).alloc (by omega) (.cells #[.int .i64 u, .int .i64 1000000, .int .i64 x, .int .i64 1000000, .int .i64 g, .int .i64 1000000, .int .i64 d, .int .i64 3] 178))
    have HK2 := Lib.hid ((Below.heap_alloc w2 (.cells #[.int .i64 u, .int .i64 1000000, .int .i64 x, .int .i64 1000000, .int .i64 g, .int .i64 1000000, .int .i64 d, .int .i64 3] 178) (w.heap.size + 1) (by omega)).trans ((hb.block (w.heap.size + 1) s1).trans k2'.out))
    have HL := Lib.hid (heap_alloc_new w2 (.cells #[.int .i64 u, .int .i64 1000000, .int .i64 x, .int .i64 1000000, .int .i64 g, .int .i64 1000000, .int .i64 d, .int .i64 3] 178))
    clear hb k2' HB1
    go_wp2_with fail
    refine (punish_full w2.heap.size 6 d 3 _ (by omega) (cell_of_row _ _ 6 _ _ _ HL.out) (cell_of_row _ _ 7 _ _ _ HL.out)).mono ?_
    rintro e w4 ⟨rfl, n, hw4⟩
    have k4 : w4.heap[w2.heap.size]? = some (.cells #[.int .i64 u, .int .i64 1000000, .int .i64 x, .int .i64 1000000, .int .i64 g, .int .i64 1000000, .int .i64 d, .int .i64 3] 178 (0, 0)) := by rw [hw4]; exact HL.out
    have k2 : w4.heap[w.heap.size + 1]? = some (.cells #[.int .i64 0, .int .i64 0, .int .i64 0, .int .i64 0, .int .i64 0, .bool false] 163 (0, 0)) := by rw [hw4]; exact HK2.out
    have HB := Lib.hid (show Below w.heap.size w w4 by rw [hw4]; exact below_drewN HB2.out n)
    have s4 : w2.heap.size < w4.heap.size := (Array.getElem?_eq_some_iff.1 k4).1
    have c0 := cell_of_row w4 _ 0 _ _ _ k4
    have c1 := cell_of_row w4 _ 1 _ _ _ k4
    have c2 := cell_of_row w4 _ 2 _ _ _ k4
    have c3 := cell_of_row w4 _ 3 _ _ _ k4
    have c4 := cell_of_row w4 _ 4 _ _ _ k4
    have c5 := cell_of_row w4 _ 5 _ _ _ k4
    have c6 := cell_of_row w4 _ 6 _ _ _ k4
    have c7 := cell_of_row w4 _ 7 _ _ _ k4
    simp at c0 c1 c2 c3 c4 c5 c6 c7
    have HK4 := Lib.hid k2
    clear hw4 k4 k2 HB2 HK2 HL
    go_wp2_with fail
    refine (account_any u x g d 1000000 1000000 1000000 3 _).mono ?_
    rintro e w5 ⟨rfl, hb⟩
    have k2 := (hb.block (w.heap.size + 1) (by omega)).trans HK4.out
    have HBB := Lib.hid (HB.out.trans (hb.mono (by omega)))
    have r0 := cell_of_row w5 _ 0 _ _ _ k2
    have e0 := frozen_of_row w5 _ 0 _ _ k2
    have r1 := cell_of_row w5 _ 1 _ _ _ k2
    have e1 := frozen_of_row w5 _ 1 _ _ k2
    have r2 := cell_of_row w5 _ 2 _ _ _ k2
    have e2 := frozen_of_row w5 _ 2 _ _ k2
    have r3 := cell_of_row w5 _ 3 _ _ _ k2
    have e3 := frozen_of_row w5 _ 3 _ _ k2
    have r4 := cell_of_row w5 _ 4 _ _ _ k2
    have e4 := frozen_of_row w5 _ 4 _ _ k2
    have r5 := cell_of_row w5 _ 5 _ _ _ k2
    have e5 := frozen_of_row w5 _ 5 _ _ k2
    simp at r0 r1 r2 r3 r4 r5
    have HK := Lib.hid k2
    clear hb k2 HK4
    go_wp2
    refine bodyPost_ret (results_cell_row rfl _ _ (w.heap.size + 1) _ _ (0, 0) _ rfl (blk6_set HK.out _ _ _ _ _ _) Tryz.underlying163 rfl (by kernel_rfl)) rfl ⟨?_, below6 HBB.out (by omega) _ _ _ _ _ _⟩
    rw [show pun2 u x g d = (0, u, x, g, d, true) by unfold pun2; rw [if_neg (by rw [HV.out]; simp), if_pos hq], rv_eq]
  · go_enter Tryz.func150, Tryz.ntmps150
    go_wp2_with fail
    refine C.out.mono ?_
    rintro e w1 ⟨rfl, hb⟩
    have s1 : w.heap.size + 1 < w1.heap.size := by have := hb.size; simp at this; omega
    have k1 := (hb.block w.heap.size (by simp; omega)).trans K1.out
    have k2 := (hb.block (w.heap.size + 1) (by simp)).trans K2.out
    have HB := Lib.hid (B2.out.trans (hb.mono (by simp; omega)))
    have q0 := cell_of_row w1 _ 0 _ _ _ k1
    have q1 := cell_of_row w1 _ 1 _ _ _ k1
    have q2 := cell_of_row w1 _ 2 _ _ _ k1
    have q3 := cell_of_row w1 _ 3 _ _ _ k1
    simp at q0 q1 q2 q3
    have k2' := Lib.hid k2
    have HB1 := Lib.hid HB.out
    clear hb k1 k2 C K1 K2 HB
    go_wp2_with fail
    refine (ledgerOf_any u x g d _).mono ?_
    rintro e w2 ⟨rfl, hb⟩
    have s2 : w1.heap.size ≤ w2.heap.size := hb.size
    have HB2 := Lib.hid ((HB1.out.trans (hb.mono (by omega))).alloc (by omega) (.cells #[.int .i64 u, .int .i64 1000000, .int .i64 x, .int .i64 1000000, .int .i64 g, .int .i64 1000000, .int .i64 d, .int .i64 3] 178))
    have HK2 := Lib.hid ((Below.heap_alloc w2 (.cells #[.int .i64 u, .int .i64 1000000, .int .i64 x, .int .i64 1000000, .int .i64 g, .int .i64 1000000, .int .i64 d, .int .i64 3] 178) (w.heap.size + 1) (by omega)).trans ((hb.block (w.heap.size + 1) s1).trans k2'.out))
    have HL := Lib.hid (heap_alloc_new w2 (.cells #[.int .i64 u, .int .i64 1000000, .int .i64 x, .int .i64 1000000, .int .i64 g, .int .i64 1000000, .int .i64 d, .int .i64 3] 178))
    clear hb k2' HB1
    go_wp2_with fail
    refine (punish_room w2.heap.size 6 d 3 _ (by omega) (by omega) (cell_of_row _ _ 6 _ _ _ HL.out) (cell_of_row _ _ 7 _ _ _ HL.out) (frozen_of_row _ _ 6 _ _ HL.out) (by omega)).mono ?_
    rintro e w4 ⟨rfl, n, hw4⟩
    have k4 : w4.heap[w2.heap.size]? = some (.cells #[.int .i64 u, .int .i64 1000000, .int .i64 x, .int .i64 1000000, .int .i64 g, .int .i64 1000000, .int .i64 (d + 1), .int .i64 3] 178 (0, 0)) := by rw [hw4]; exact heap_setCell_same (w2.alloc (.cells #[.int .i64 u, .int .i64 1000000, .int .i64 x, .int .i64 1000000, .int .i64 g, .int .i64 1000000, .int .i64 d, .int .i64 3] 178)) w2.heap.size 6 _ _ _ HL.out
    have k2 : w4.heap[w.heap.size + 1]? = some (.cells #[.int .i64 0, .int .i64 0, .int .i64 0, .int .i64 0, .int .i64 0, .bool false] 163 (0, 0)) := by rw [hw4]; exact (Below.heap_setCell (w2.alloc (.cells #[.int .i64 u, .int .i64 1000000, .int .i64 x, .int .i64 1000000, .int .i64 g, .int .i64 1000000, .int .i64 d, .int .i64 3] 178)) ⟨w2.heap.size, 6, none⟩ _ (w.heap.size + 1) (by simp; omega)).trans HK2.out
    have HB := Lib.hid (show Below w.heap.size w w4 by rw [hw4]; exact below_drewN (HB2.out.setCell (p := ⟨w2.heap.size, 6, none⟩) (by simp; omega) _) n)
    have s4 : w2.heap.size < w4.heap.size := (Array.getElem?_eq_some_iff.1 k4).1
    have c0 := cell_of_row w4 _ 0 _ _ _ k4
    have c1 := cell_of_row w4 _ 1 _ _ _ k4
    have c2 := cell_of_row w4 _ 2 _ _ _ k4
    have c3 := cell_of_row w4 _ 3 _ _ _ k4
    have c4 := cell_of_row w4 _ 4 _ _ _ k4
    have c5 := cell_of_row w4 _ 5 _ _ _ k4
    have c6 := cell_of_row w4 _ 6 _ _ _ k4
    have c7 := cell_of_row w4 _ 7 _ _ _ k4
    simp at c0 c1 c2 c3 c4 c5 c6 c7
    have HK4 := Lib.hid k2
    clear hw4 k4 k2 HB2 HK2 HL
    go_wp2_with fail
    refine (account_any u x g (d + 1) 1000000 1000000 1000000 3 _).mono ?_
    rintro e w5 ⟨rfl, hb⟩
    have k2 := (hb.block (w.heap.size + 1) (by omega)).trans HK4.out
    have HBB := Lib.hid (HB.out.trans (hb.mono (by omega)))
    have r0 := cell_of_row w5 _ 0 _ _ _ k2
    have e0 := frozen_of_row w5 _ 0 _ _ k2
    have r1 := cell_of_row w5 _ 1 _ _ _ k2
    have e1 := frozen_of_row w5 _ 1 _ _ k2
    have r2 := cell_of_row w5 _ 2 _ _ _ k2
    have e2 := frozen_of_row w5 _ 2 _ _ k2
    have r3 := cell_of_row w5 _ 3 _ _ _ k2
    have e3 := frozen_of_row w5 _ 3 _ _ k2
    have r4 := cell_of_row w5 _ 4 _ _ _ k2
    have e4 := frozen_of_row w5 _ 4 _ _ k2
    have r5 := cell_of_row w5 _ 5 _ _ _ k2
    have e5 := frozen_of_row w5 _ 5 _ _ k2
    simp at r0 r1 r2 r3 r4 r5
    have HK := Lib.hid k2
    clear hb k2 HK4
    go_wp2
    refine bodyPost_ret (results_cell_row rfl _ _ (w.heap.size + 1) _ _ (0, 0) _ rfl (blk6_set HK.out _ _ _ _ _ _) Tryz.underlying163 rfl (by kernel_rfl)) rfl ⟨?_, below6 HBB.out (by omega) _ _ _ _ _ _⟩
    rw [show pun2 u x g d = (0, u, x, g, d + 1, false) by unfold pun2; rw [if_neg (by rw [HV.out]; simp), if_neg (by omega)], rv_eq]

theorem implSkipAccount_any (u x g d : Int) (w : World) :
    Calls Tryz.prog 146 #[.agg #[.int .i64 u, .int .i64 x, .int .i64 g, .int .i64 d]] w fun e w' => e = .returned (rv2 (skip2 u x g d)) ∧ Below w.heap.size w w' := by
  have B2 : Hid (Below w.heap.size w ((w.alloc (.cells #[.int .i64 u, .int .i64 x, .int .i64 g, .int .i64 d] 68)).alloc (.cells #[.int .i64 0, .int .i64 0, .int .i64 0, .int .i64 0, .int .i64 0, .bool false] 163))) := (below_new w _).alloc (by simp) _
  have K1 : Hid (((w.alloc (.cells #[.int .i64 u, .int .i64 x, .int .i64 g, .int .i64 d] 68)).alloc (.cells #[.int .i64 0, .int .i64 0, .int .i64 0, .int .i64 0, .int .i64 0, .bool false] 163)).heap[w.heap.size]? = some (.cells #[.int .i64 u, .int .i64 x, .int .i64 g, .int .i64 d] 68 (0, 0))) := heap_alloc2_old w _ _
  have K2 : Hid (((w.alloc (.cells #[.int .i64 u, .int .i64 x, .int .i64 g, .int .i64 d] 68)).alloc (.cells #[.int .i64 0, .int .i64 0, .int .i64 0, .int .i64 0, .int .i64 0, .bool false] 163)).heap[w.heap.size + 1]? = some (.cells #[.int .i64 0, .int .i64 0, .int .i64 0, .int .i64 0, .int .i64 0, .bool false] 163 (0, 0))) := heap_alloc2_new w _ _
  have C := Lib.hid (implAccountFault_any u x g d ((w.alloc (.cells #[.int .i64 u, .int .i64 x, .int .i64 g, .int .i64 d] 68)).alloc (.cells #[.int .i64 0, .int .i64 0, .int .i64 0, .int .i64 0, .int .i64 0, .bool false] 163)))
  by_cases hv : af u x g d = 0
  case neg =>
    have hv' : (af u x g d != 0) = true := by simp [hv]
    have HV := Lib.hid hv
    clear hv
    go_enter Tryz.func146, Tryz.ntmps146
    go_wp2_with fail
    refine C.out.mono ?_
    rintro e w1 ⟨rfl, hb⟩
    have s1 : w.heap.size + 1 < w1.heap.size := by have := hb.size; simp at this; omega
    have k1 := (hb.block w.heap.size (by simp; omega)).trans K1.out
    have k2 := (hb.block (w.heap.size + 1) (by simp)).trans K2.out
    have HB := Lib.hid (B2.out.trans (hb.mono (by simp; omega)))
    have q0 := cell_of_row w1 _ 0 _ _ _ k1
    have q1 := cell_of_row w1 _ 1 _ _ _ k1
    have q2 := cell_of_row w1 _ 2 _ _ _ k1
    have q3 := cell_of_row w1 _ 3 _ _ _ k1
    simp at q0 q1 q2 q3
    have r0 := cell_of_row w1 _ 0 _ _ _ k2
    have e0 := frozen_of_row w1 _ 0 _ _ k2
    have r1 := cell_of_row w1 _ 1 _ _ _ k2
    have e1 := frozen_of_row w1 _ 1 _ _ k2
    have r2 := cell_of_row w1 _ 2 _ _ _ k2
    have e2 := frozen_of_row w1 _ 2 _ _ k2
    have r3 := cell_of_row w1 _ 3 _ _ _ k2
    have e3 := frozen_of_row w1 _ 3 _ _ k2
    have r4 := cell_of_row w1 _ 4 _ _ _ k2
    have e4 := frozen_of_row w1 _ 4 _ _ k2
    have r5 := cell_of_row w1 _ 5 _ _ _ k2
    have e5 := frozen_of_row w1 _ 5 _ _ k2
    simp at r0 r1 r2 r3 r4 r5
    have HK := Lib.hid k2
    clear hb k1 k2 C K1 K2
    go_wp2
    refine bodyPost_ret (results_cell_row rfl _ _ (w.heap.size + 1) _ _ (0, 0) _ rfl (blk6_set HK.out _ _ _ _ _ _) Tryz.underlying163 rfl (by kernel_rfl)) rfl ⟨?_, below6 HB.out (by omega) _ _ _ _ _ _⟩
    rw [show skip2 u x g d = (af u x g d, 0, 0, 0, 0, false) by unfold skip2; rw [if_pos HV.out], rv_eq]
  have hv' : (af u x g d != 0) = false := by simp [hv]
  obtain ⟨⟨u0, u1⟩, ⟨x0, x1⟩, ⟨g0, g1⟩, ⟨d0, d1⟩⟩ := af_zero hv
  have HV := Lib.hid hv
  clear hv
  by_cases hq : d ≤ 0
  · go_enter Tryz.func146, Tryz.ntmps146
    go_wp2_with fail
    refine C.out.mono ?_
    rintro e w1 ⟨rfl, hb⟩
    have s1 : w.heap.size + 1 < w1.heap.size := by have := hb.size; simp at this; omega
    have k1 := (hb.block w.heap.size (by simp; omega)).trans K1.out
    have k2 := (hb.block (w.heap.size + 1) (by simp)).trans K2.out
    have HB := Lib.hid (B2.out.trans (hb.mono (by simp; omega)))
    have q0 := cell_of_row w1 _ 0 _ _ _ k1
    have q1 := cell_of_row w1 _ 1 _ _ _ k1
    have q2 := cell_of_row w1 _ 2 _ _ _ k1
    have q3 := cell_of_row w1 _ 3 _ _ _ k1
    simp at q0 q1 q2 q3
    have k2' := Lib.hid k2
    have HB1 := Lib.hid HB.out
    clear hb k1 k2 C K1 K2 HB
    go_wp2_with fail
    refine (ledgerOf_any u x g d _).mono ?_
    rintro e w2 ⟨rfl, hb⟩
    have s2 : w1.heap.size ≤ w2.heap.size := hb.size
    have HB2 := Lib.hid ((HB1.out.trans (hb.mono (by omega))).alloc (by omega) (.cells #[.int .i64 u, .int .i64 1000000, .int .i64 x, .int .i64 1000000, .int .i64 g, .int .i64 1000000, .int .i64 d, .int .i64 3] 178))
    have HK2 := Lib.hid ((Below.heap_alloc w2 (.cells #[.int .i64 u, .int .i64 1000000, .int .i64 x, .int .i64 1000000, .int .i64 g, .int .i64 1000000, .int .i64 d, .int .i64 3] 178) (w.heap.size + 1) (by omega)).trans ((hb.block (w.heap.size + 1) s1).trans k2'.out))
    have HL := Lib.hid (heap_alloc_new w2 (.cells #[.int .i64 u, .int .i64 1000000, .int .i64 x, .int .i64 1000000, .int .i64 g, .int .i64 1000000, .int .i64 d, .int .i64 3] 178))
    clear hb k2' HB1
    go_wp2_with fail
    refine (skipm_none w2.heap.size 6 d _ hq (cell_of_row _ _ 6 _ _ _ HL.out)).mono ?_
    rintro e w4 ⟨rfl, n, hw4⟩
    have k4 : w4.heap[w2.heap.size]? = some (.cells #[.int .i64 u, .int .i64 1000000, .int .i64 x, .int .i64 1000000, .int .i64 g, .int .i64 1000000, .int .i64 d, .int .i64 3] 178 (0, 0)) := by rw [hw4]; exact HL.out
    have k2 : w4.heap[w.heap.size + 1]? = some (.cells #[.int .i64 0, .int .i64 0, .int .i64 0, .int .i64 0, .int .i64 0, .bool false] 163 (0, 0)) := by rw [hw4]; exact HK2.out
    have HB := Lib.hid (show Below w.heap.size w w4 by rw [hw4]; exact below_drewN HB2.out n)
    have s4 : w2.heap.size < w4.heap.size := (Array.getElem?_eq_some_iff.1 k4).1
    have c0 := cell_of_row w4 _ 0 _ _ _ k4
    have c1 := cell_of_row w4 _ 1 _ _ _ k4
    have c2 := cell_of_row w4 _ 2 _ _ _ k4
    have c3 := cell_of_row w4 _ 3 _ _ _ k4
    have c4 := cell_of_row w4 _ 4 _ _ _ k4
    have c5 := cell_of_row w4 _ 5 _ _ _ k4
    have c6 := cell_of_row w4 _ 6 _ _ _ k4
    have c7 := cell_of_row w4 _ 7 _ _ _ k4
    simp at c0 c1 c2 c3 c4 c5 c6 c7
    have HK4 := Lib.hid k2
    clear hw4 k4 k2 HB2 HK2 HL
    go_wp2_with fail
    refine (answer_bad 4 u x g d 1000000 1000000 1000000 3 _ rfl).mono ?_
    rintro e w5 ⟨rfl, hb⟩
    have k2 := (hb.block (w.heap.size + 1) (by omega)).trans HK4.out
    have HBB := Lib.hid (HB.out.trans (hb.mono (by omega)))
    have r0 := cell_of_row w5 _ 0 _ _ _ k2
    have e0 := frozen_of_row w5 _ 0 _ _ k2
    have r1 := cell_of_row w5 _ 1 _ _ _ k2
    have e1 := frozen_of_row w5 _ 1 _ _ k2
    have r2 := cell_of_row w5 _ 2 _ _ _ k2
    have e2 := frozen_of_row w5 _ 2 _ _ k2
    have r3 := cell_of_row w5 _ 3 _ _ _ k2
    have e3 := frozen_of_row w5 _ 3 _ _ k2
    have r4 := cell_of_row w5 _ 4 _ _ _ k2
    have e4 := frozen_of_row w5 _ 4 _ _ k2
    have r5 := cell_of_row w5 _ 5 _ _ _ k2
    have e5 := frozen_of_row w5 _ 5 _ _ k2
    simp at r0 r1 r2 r3 r4 r5
    have HK := Lib.hid k2
    clear hb k2 HK4
    go_wp2
    refine bodyPost_ret (results_cell_row rfl _ _ (w.heap.size + 1) _ _ (0, 0) _ rfl (blk6_set HK.out _ _ _ _ _ _) Tryz.underlying163 rfl (by kernel_rfl)) rfl ⟨?_, below6 HBB.out (by omega) _ _ _ _ _ _⟩
    rw [show skip2 u x g d = (4, 0, 0, 0, 0, false) by unfold skip2; rw [if_neg (by rw [HV.out]; simp), if_pos (by omega)], rv_eq]
  · go_enter Tryz.func146, Tryz.ntmps146
    go_wp2_with fail
    refine C.out.mono ?_
    rintro e w1 ⟨rfl, hb⟩
    have s1 : w.heap.size + 1 < w1.heap.size := by have := hb.size; simp at this; omega
    have k1 := (hb.block w.heap.size (by simp; omega)).trans K1.out
    have k2 := (hb.block (w.heap.size + 1) (by simp)).trans K2.out
    have HB := Lib.hid (B2.out.trans (hb.mono (by simp; omega)))
    have q0 := cell_of_row w1 _ 0 _ _ _ k1
    have q1 := cell_of_row w1 _ 1 _ _ _ k1
    have q2 := cell_of_row w1 _ 2 _ _ _ k1
    have q3 := cell_of_row w1 _ 3 _ _ _ k1
    simp at q0 q1 q2 q3
    have k2' := Lib.hid k2
    have HB1 := Lib.hid HB.out
    clear hb k1 k2 C K1 K2 HB
    go_wp2_with fail
    refine (ledgerOf_any u x g d _).mono ?_
    rintro e w2 ⟨rfl, hb⟩
    have s2 : w1.heap.size ≤ w2.heap.size := hb.size
    have HB2 := Lib.hid ((HB1.out.trans (hb.mono (by omega))).alloc (by omega) (.cells #[.int .i64 u, .int .i64 1000000, .int .i64 x, .int .i64 1000000, .int .i64 g, .int .i64 1000000, .int .i64 d, .int .i64 3] 178))
    have HK2 := Lib.hid ((Below.heap_alloc w2 (.cells #[.int .i64 u, .int .i64 1000000, .int .i64 x, .int .i64 1000000, .int .i64 g, .int .i64 1000000, .int .i64 d, .int .i64 3] 178) (w.heap.size + 1) (by omega)).trans ((hb.block (w.heap.size + 1) s1).trans k2'.out))
    have HL := Lib.hid (heap_alloc_new w2 (.cells #[.int .i64 u, .int .i64 1000000, .int .i64 x, .int .i64 1000000, .int .i64 g, .int .i64 1000000, .int .i64 d, .int .i64 3] 178))
    clear hb k2' HB1
    go_wp2_with fail
    refine (skipm_any w2.heap.size 6 d _ (by omega) (by omega) (cell_of_row _ _ 6 _ _ _ HL.out) (frozen_of_row _ _ 6 _ _ HL.out)).mono ?_
    rintro e w4 ⟨rfl, n, hw4⟩
    have k4 : w4.heap[w2.heap.size]? = some (.cells #[.int .i64 u, .int .i64 1000000, .int .i64 x, .int .i64 1000000, .int .i64 g, .int .i64 1000000, .int .i64 (d - 1), .int .i64 3] 178 (0, 0)) := by rw [hw4]; exact heap_setCell_same (w2.alloc (.cells #[.int .i64 u, .int .i64 1000000, .int .i64 x, .int .i64 1000000, .int .i64 g, .int .i64 1000000, .int .i64 d, .int .i64 3] 178)) w2.heap.size 6 _ _ _ HL.out
    have k2 : w4.heap[w.heap.size + 1]? = some (.cells #[.int .i64 0, .int .i64 0, .int .i64 0, .int .i64 0, .int .i64 0, .bool false] 163 (0, 0)) := by rw [hw4]; exact (Below.heap_setCell (w2.alloc (.cells #[.int .i64 u, .int .i64 1000000, .int .i64 x, .int .i64 1000000, .int .i64 g, .int .i64 1000000, .int .i64 d, .int .i64 3] 178)) ⟨w2.heap.size, 6, none⟩ _ (w.heap.size + 1) (by simp; omega)).trans HK2.out
    have HB := Lib.hid (show Below w.heap.size w w4 by rw [hw4]; exact below_drewN (HB2.out.setCell (p := ⟨w2.heap.size, 6, none⟩) (by simp; omega) _) n)
    have s4 : w2.heap.size < w4.heap.size := (Array.getElem?_eq_some_iff.1 k4).1
    have c0 := cell_of_row w4 _ 0 _ _ _ k4
    have c1 := cell_of_row w4 _ 1 _ _ _ k4
    have c2 := cell_of_row w4 _ 2 _ _ _ k4
    have c3 := cell_of_row w4 _ 3 _ _ _ k4
    have c4 := cell_of_row w4 _ 4 _ _ _ k4
    have c5 := cell_of_row w4 _ 5 _ _ _ k4
    have c6 := cell_of_row w4 _ 6 _ _ _ k4
    have c7 := cell_of_row w4 _ 7 _ _ _ k4
    simp at c0 c1 c2 c3 c4 c5 c6 c7
    have HK4 := Lib.hid k2
    clear hw4 k4 k2 HB2 HK2 HL
    go_wp2_with fail
    refine (answer_ok u x g (d - 1) 1000000 1000000 1000000 3 _).mono ?_
    rintro e w5 ⟨rfl, hb⟩
    have k2 := (hb.block (w.heap.size + 1) (by omega)).trans HK4.out
    have HBB := Lib.hid (HB.out.trans (hb.mono (by omega)))
    have r0 := cell_of_row w5 _ 0 _ _ _ k2
    have e0 := frozen_of_row w5 _ 0 _ _ k2
    have r1 := cell_of_row w5 _ 1 _ _ _ k2
    have e1 := frozen_of_row w5 _ 1 _ _ k2
    have r2 := cell_of_row w5 _ 2 _ _ _ k2
    have e2 := frozen_of_row w5 _ 2 _ _ k2
    have r3 := cell_of_row w5 _ 3 _ _ _ k2
    have e3 := frozen_of_row w5 _ 3 _ _ k2
    have r4 := cell_of_row w5 _ 4 _ _ _ k2
    have e4 := frozen_of_row w5 _ 4 _ _ k2
    have r5 := cell_of_row w5 _ 5 _ _ _ k2
    have e5 := frozen_of_row w5 _ 5 _ _ k2
    simp at r0 r1 r2 r3 r4 r5
    have HK := Lib.hid k2
    clear hb k2 HK4
    go_wp2
    refine bodyPost_ret (results_cell_row rfl _ _ (w.heap.size + 1) _ _ (0, 0) _ rfl (blk6_set HK.out _ _ _ _ _ _) Tryz.underlying163 rfl (by kernel_rfl)) rfl ⟨?_, below6 HBB.out (by omega) _ _ _ _ _ _⟩
    rw [show skip2 u x g d = (0, u, x, g, d - 1, false) by unfold skip2; rw [if_neg (by rw [HV.out]; simp), if_neg (by omega)], rv_eq]

end Go.Proofs.YtckapndpefkcgaaGreat
