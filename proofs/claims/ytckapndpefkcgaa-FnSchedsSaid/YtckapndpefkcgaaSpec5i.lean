/-
  The model's l5Copy, of any list that stands somewhere; its l5Copy, l5Picks and l5Pick of a schedule that lies in an answer's box. No conditions beyond that the list can be read.
-/
import Derived.Laws.AppendOwnNone
import Derived.Test.YtckapndpefkcgaaMath5c
import Derived.Test.YtckapndpefkcgaaOwn4
import Derived.Test.YtckapndpefkcgaaCut6
set_option maxHeartbeats 1000000
namespace Go.Proofs.Ytckapndpefkcgaa
open Go.RowKit
set_option maxRecDepth 100000

set_option maxHeartbeats 8000000 in
theorem l5CopyE_any (ad : Addr) (c s0 : Nat) (b : Int) (w : World)
    (hs : w.heap[s0]? = some (.cells #[.int .i64 b, .slice (some ad) 0 c] 43 (0, 0))) :
    Calls Try.prog 74 #[.pointer (some ⟨s0, 0, none⟩)] w fun e w' => ∃ A' c', e = .returned (.agg #[.int .i64 b, .slice A' 0 c']) ∧ OR 52 3 w' w.heap.size A' 0 c' [] ∧ Below w.heap.size w w' := by
  have S0 := Lib.hid (Array.getElem?_eq_some_iff.1 hs).1
  have KS : Hid (∀ W, Below w.heap.size w W → W.cell? ⟨s0, 0, none⟩ = some (.int .i64 b) ∧ W.cell? ⟨s0, 1, none⟩ = some (.slice (some ad) 0 c)) := fun W hW => by
    have j := (hW.block s0 S0.out).trans hs
    exact ⟨cell_of_row W _ 0 _ _ _ j, cell_of_row W _ 1 _ _ _ j⟩
  obtain ⟨w1, hw1⟩ : ∃ w1, w1 = w.alloc (.cells #[.int .i64 0, .slice none 0 0] 43) := ⟨_, rfl⟩
  have K1 : Hid (w1.heap[w.heap.size]? = some (.cells #[.int .i64 0, .slice none 0 0] 43 (0, 0))) := by show _ = _; rw [hw1]; exact heap_alloc_new w _
  have B1 : Hid (Below w.heap.size w w1) := by rw [hw1]; exact below_new w _
  have Z1 : Hid (w1.heap.size = w.heap.size + 1) := by show _ = _; rw [hw1]; simp
  have HW1 := Lib.hid hw1
  obtain ⟨q0, q1⟩ := KS.out w1 B1.out
  obtain ⟨t0, t1⟩ := KS.out (w1.alloc (.cells #[] 52)) (B1.out.alloc (by have := Z1.out; omega) _)
  obtain ⟨w7, hw7⟩ : ∃ w7, w7 = w1.alloc (.cells #[] 52) := ⟨_, rfl⟩
  have OE : Hid (OR 52 3 w7 w.heap.size (some ⟨w1.heap.size, 0, none⟩) 0 0 []) := by rw [hw7]; exact OR.empty w1 (by have := Z1.out; omega)
  have B7 : Hid (Below w.heap.size w w7) := by rw [hw7]; exact B1.out.alloc (by have := Z1.out; omega) _
  have K7 : Hid (w7.heap[w.heap.size]? = some (.cells #[.int .i64 0, .slice none 0 0] 43 (0, 0))) := by show _ = _; rw [hw7]; exact ((below_new w1 (.cells #[] 52)).block w.heap.size (by have := Z1.out; omega)).trans K1.out
  have KE : Hid ((w1.alloc (.cells #[] 52)).heap[w.heap.size]? = some (.cells #[.int .i64 0, .slice none 0 0] 43 (0, 0))) := ((below_new w1 (.cells #[] 52)).block w.heap.size (by have := Z1.out; omega)).trans K1.out
  have y0 := cell_of_row _ _ 0 _ _ _ KE.out; have y1 := cell_of_row _ _ 1 _ _ _ KE.out; have f0 := frozen_of_row _ _ 0 _ _ KE.out; have f1 := frozen_of_row _ _ 1 _ _ KE.out
  simp only [List.getElem?_cons_zero, List.getElem?_cons_succ, List.getElem?_toArray] at y0 y1
  clear hw1 hs
  go_enter Try.func74, Try.ntmps74
  go_upto_region 1 with (fail)
  rw [← HW1.out]
  clear HW1
  go_region
  all_goals
    rw [← hw7]
    go_wp2
    refine bodyPost_ret (results_cell_row rfl _ _ w.heap.size _ _ (0, 0) _ rfl (heap_setCell_same _ _ 1 _ _ _ (heap_setCell_same _ _ 0 _ _ _ K7.out)) Try.underlying43 rfl (by kernel_rfl)) rfl ?_
    refine ⟨_, _, rfl, ?_, ((B7.out.setCell (p := ⟨w.heap.size, 0, none⟩) (Nat.le_refl _) _).setCell (p := ⟨w.heap.size, 1, none⟩) (Nat.le_refl _) _).drew⟩
    exact OR.drewN (OR.setOther (OR.setOther OE.out K7.out (by decide) 0 _) (heap_setCell_same _ _ 0 _ _ _ K7.out) (by decide) 1 _) 1

set_option maxHeartbeats 8000000 in
theorem l5CopyN_any (c s0 : Nat) (b : Int) (w : World)
    (hs : w.heap[s0]? = some (.cells #[.int .i64 b, .slice none 0 c] 43 (0, 0))) :
    Calls Try.prog 74 #[.pointer (some ⟨s0, 0, none⟩)] w fun e w' => ∃ A' c', e = .returned (.agg #[.int .i64 b, .slice A' 0 c']) ∧ OR 52 3 w' w.heap.size A' 0 c' [] ∧ Below w.heap.size w w' := by
  have S0 := Lib.hid (Array.getElem?_eq_some_iff.1 hs).1
  have KS : Hid (∀ W, Below w.heap.size w W → W.cell? ⟨s0, 0, none⟩ = some (.int .i64 b) ∧ W.cell? ⟨s0, 1, none⟩ = some (.slice none 0 c)) := fun W hW => by
    have j := (hW.block s0 S0.out).trans hs
    exact ⟨cell_of_row W _ 0 _ _ _ j, cell_of_row W _ 1 _ _ _ j⟩
  obtain ⟨w1, hw1⟩ : ∃ w1, w1 = w.alloc (.cells #[.int .i64 0, .slice none 0 0] 43) := ⟨_, rfl⟩
  have K1 : Hid (w1.heap[w.heap.size]? = some (.cells #[.int .i64 0, .slice none 0 0] 43 (0, 0))) := by show _ = _; rw [hw1]; exact heap_alloc_new w _
  have B1 : Hid (Below w.heap.size w w1) := by rw [hw1]; exact below_new w _
  have Z1 : Hid (w1.heap.size = w.heap.size + 1) := by show _ = _; rw [hw1]; simp
  have HW1 := Lib.hid hw1
  obtain ⟨q0, q1⟩ := KS.out w1 B1.out
  obtain ⟨t0, t1⟩ := KS.out (w1.alloc (.cells #[] 52)) (B1.out.alloc (by have := Z1.out; omega) _)
  obtain ⟨w7, hw7⟩ : ∃ w7, w7 = w1.alloc (.cells #[] 52) := ⟨_, rfl⟩
  have OE : Hid (OR 52 3 w7 w.heap.size (some ⟨w1.heap.size, 0, none⟩) 0 0 []) := by rw [hw7]; exact OR.empty w1 (by have := Z1.out; omega)
  have B7 : Hid (Below w.heap.size w w7) := by rw [hw7]; exact B1.out.alloc (by have := Z1.out; omega) _
  have K7 : Hid (w7.heap[w.heap.size]? = some (.cells #[.int .i64 0, .slice none 0 0] 43 (0, 0))) := by show _ = _; rw [hw7]; exact ((below_new w1 (.cells #[] 52)).block w.heap.size (by have := Z1.out; omega)).trans K1.out
  have KE : Hid ((w1.alloc (.cells #[] 52)).heap[w.heap.size]? = some (.cells #[.int .i64 0, .slice none 0 0] 43 (0, 0))) := ((below_new w1 (.cells #[] 52)).block w.heap.size (by have := Z1.out; omega)).trans K1.out
  have y0 := cell_of_row _ _ 0 _ _ _ KE.out; have y1 := cell_of_row _ _ 1 _ _ _ KE.out; have f0 := frozen_of_row _ _ 0 _ _ KE.out; have f1 := frozen_of_row _ _ 1 _ _ KE.out
  simp only [List.getElem?_cons_zero, List.getElem?_cons_succ, List.getElem?_toArray] at y0 y1
  clear hw1 hs
  go_enter Try.func74, Try.ntmps74
  go_upto_region 1 with (fail)
  rw [← HW1.out]
  clear HW1
  go_region
  all_goals
    rw [← hw7]
    go_wp2
    refine bodyPost_ret (results_cell_row rfl _ _ w.heap.size _ _ (0, 0) _ rfl (heap_setCell_same _ _ 1 _ _ _ (heap_setCell_same _ _ 0 _ _ _ K7.out)) Try.underlying43 rfl (by kernel_rfl)) rfl ?_
    refine ⟨_, _, rfl, ?_, ((B7.out.setCell (p := ⟨w.heap.size, 0, none⟩) (Nat.le_refl _) _).setCell (p := ⟨w.heap.size, 1, none⟩) (Nat.le_refl _) _).drew⟩
    exact OR.drewN (OR.setOther (OR.setOther OE.out K7.out (by decide) 0 _) (heap_setCell_same _ _ 0 _ _ _ K7.out) (by decide) 1 _) 1

set_option maxHeartbeats 8000000 in
theorem l5Copy0_any (lo hi : Nat) (ad : Addr) (c s0 : Nat) (b : Int) (xs : List R3) (w : World) (hl : xs.length ≤ 5) (h : RS w lo hi (some ad) xs)
    (hs : w.heap[s0]? = some (.cells #[.int .i64 b, .slice (some ad) xs.length c] 43 (0, 0))) :
    Calls Try.prog 74 #[.pointer (some ⟨s0, 0, none⟩)] w fun e w' => ∃ A' c', e = .returned (.agg #[.int .i64 b, .slice A' xs.length c']) ∧ OR 52 3 w' w.heap.size A' xs.length c' (fl xs) ∧ Below w.heap.size w w' := by
  by_cases h0 : 0 < xs.length
  · exact l5Copy_any lo hi (some ad) c s0 b xs w hl h0 h hs
  · obtain rfl : xs = [] := List.length_eq_zero_iff.1 (by omega)
    exact l5CopyE_any ad c s0 b w hs

theorem l5CopyA_any (lo hi : Nat) (AA : Option Addr) (c s0 : Nat) (b : Int) (xs : List R3) (w : World) (hl : xs.length ≤ 5) (h : RS w lo hi AA xs)
    (hs : w.heap[s0]? = some (.cells #[.int .i64 b, .slice AA xs.length c] 43 (0, 0))) :
    Calls Try.prog 74 #[.pointer (some ⟨s0, 0, none⟩)] w fun e w' => ∃ A' c', e = .returned (.agg #[.int .i64 b, .slice A' xs.length c']) ∧ OR 52 3 w' w.heap.size A' xs.length c' (fl xs) ∧ Below w.heap.size w w' := by
  rcases AA with _ | ad
  · have h0 : xs.length = 0 := by
      rcases Nat.eq_zero_or_pos xs.length with e | e
      · exact e
      · obtain ⟨_, _, e2, _⟩ := h 0 (by omega)
        cases e2
    obtain rfl : xs = [] := List.length_eq_zero_iff.1 h0
    exact l5CopyN_any c s0 b w hs
  · exact l5Copy0_any lo hi ad c s0 b xs w hl h hs

end Go.Proofs.Ytckapndpefkcgaa
