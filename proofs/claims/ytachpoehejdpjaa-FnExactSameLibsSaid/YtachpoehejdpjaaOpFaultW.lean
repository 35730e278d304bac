/-
  The model's OpFault, and the walk of the law. No conditions.
-/
import Derived.Test.YtachpoehejdpjaaOp7
namespace Go.Proofs.Ytachpoehejdpjaa
open Go.RowKit
set_option maxRecDepth 100000

theorem l7Op_ff (g : Nat) (l c : Int) (w : World) (c0 : w.cell? ⟨g, 1, none⟩ = some (.int .i64 l)) (c1 : w.cell? ⟨g, 2, none⟩ = some (.int .i64 c)) :
    Calls Try.prog 26 #[.pointer (some ⟨g, 0, none⟩), .bool false, .bool false] w fun e w' => e = .returned (.int .i64 (if l ≠ 0 ∨ c ≠ 0 then 1 else 0)) ∧ w = w' := by
  have z0 : inR 0 1 0 = true := by decide
  by_cases a0 : l = 0
  rotate_left
  · have v : (if l ≠ 0 ∨ c ≠ 0 then 1 else 0 : Int) = 1 := by simp [a0]
    go_enter Try.func26, Try.ntmps26
    go_wp2_with (go_at_call 64; refine (l1In_any _ _ _ _).mono ?_; rintro e w' ⟨rfl, rfl⟩)
    go_ret
    exact ⟨by first | rfl | exact ret_int7 v.symm | (rw [v]), rfl⟩
  by_cases a1 : c = 0
  rotate_left
  · have v : (if l ≠ 0 ∨ c ≠ 0 then 1 else 0 : Int) = 1 := by simp [a1]
    go_enter Try.func26, Try.ntmps26
    go_wp2_with (go_at_call 64; refine (l1In_any _ _ _ _).mono ?_; rintro e w' ⟨rfl, rfl⟩)
    go_ret
    exact ⟨by first | rfl | exact ret_int7 v.symm | (rw [v]), rfl⟩
  subst a0; subst a1
  have v : (if (0 : Int) ≠ 0 ∨ (0 : Int) ≠ 0 then 1 else 0 : Int) = 0 := by simp
  go_enter Try.func26, Try.ntmps26
  go_wp2_with (go_at_call 64; refine (l1In_any _ _ _ _).mono ?_; rintro e w' ⟨rfl, rfl⟩)
  go_ret
  exact ⟨by first | rfl | exact ret_int7 v.symm | (rw [v]), rfl⟩

theorem l7Op_tf (g : Nat) (l c : Int) (w : World) (c0 : w.cell? ⟨g, 1, none⟩ = some (.int .i64 l)) (c1 : w.cell? ⟨g, 2, none⟩ = some (.int .i64 c)) :
    Calls Try.prog 26 #[.pointer (some ⟨g, 0, none⟩), .bool true, .bool false] w fun e w' => e = .returned (.int .i64 (if c ≠ 0 then 1 else if l < 0 ∨ 1 < l then 3 else 0)) ∧ w = w' := by
  have z0 : inR 0 1 0 = true := by decide
  by_cases a1 : c = 0
  rotate_left
  · have v : (if c ≠ 0 then 1 else if l < 0 ∨ 1 < l then 3 else 0 : Int) = 1 := by simp [a1]
    go_enter Try.func26, Try.ntmps26
    go_wp2_with (go_at_call 64; refine (l1In_any _ _ _ _).mono ?_; rintro e w' ⟨rfl, rfl⟩)
    go_ret
    exact ⟨by first | rfl | exact ret_int7 v.symm | (rw [v]), rfl⟩
  subst a1
  by_cases bl : 0 ≤ l ∧ l ≤ 1
  rotate_left
  · have el : inR 0 1 l = false := by simp [inR]; omega
    have v : (if (0 : Int) ≠ 0 then 1 else if l < 0 ∨ 1 < l then 3 else 0 : Int) = 3 := by simp; omega
    go_enter Try.func26, Try.ntmps26
    go_wp2_with (go_at_call 64; refine (l1In_any _ _ _ _).mono ?_; rintro e w' ⟨rfl, rfl⟩)
    go_ret
    exact ⟨by first | rfl | exact ret_int7 v.symm | (rw [v]), rfl⟩
  have el : inR 0 1 l = true := inR_true bl
  have v : (if (0 : Int) ≠ 0 then 1 else if l < 0 ∨ 1 < l then 3 else 0 : Int) = 0 := by simp; omega
  go_enter Try.func26, Try.ntmps26
  go_wp2_with (go_at_call 64; refine (l1In_any _ _ _ _).mono ?_; rintro e w' ⟨rfl, rfl⟩)
  go_ret
  exact ⟨by first | rfl | exact ret_int7 v.symm | (rw [v]), rfl⟩

theorem l7Op_tt (g : Nat) (l c : Int) (w : World) (c0 : w.cell? ⟨g, 1, none⟩ = some (.int .i64 l)) (c1 : w.cell? ⟨g, 2, none⟩ = some (.int .i64 c)) :
    Calls Try.prog 26 #[.pointer (some ⟨g, 0, none⟩), .bool true, .bool true] w fun e w' => e = .returned (.int .i64 (if l < 0 ∨ 1 < l ∨ c < 0 ∨ 1 < c then 3 else 0)) ∧ w = w' := by
  by_cases bl : 0 ≤ l ∧ l ≤ 1
  rotate_left
  · have el : inR 0 1 l = false := by simp [inR]; omega
    have v : (if l < 0 ∨ 1 < l ∨ c < 0 ∨ 1 < c then 3 else 0 : Int) = 3 := by simp; omega
    go_enter Try.func26, Try.ntmps26
    go_wp2_with (go_at_call 64; refine (l1In_any _ _ _ _).mono ?_; rintro e w' ⟨rfl, rfl⟩)
    go_ret
    exact ⟨by first | rfl | exact ret_int7 v.symm | (rw [v]), rfl⟩
  have el : inR 0 1 l = true := inR_true bl
  by_cases bc : 0 ≤ c ∧ c ≤ 1
  rotate_left
  · have ec : inR 0 1 c = false := by simp [inR]; omega
    have v : (if l < 0 ∨ 1 < l ∨ c < 0 ∨ 1 < c then 3 else 0 : Int) = 3 := by simp; omega
    go_enter Try.func26, Try.ntmps26
    go_wp2_with (go_at_call 64; refine (l1In_any _ _ _ _).mono ?_; rintro e w' ⟨rfl, rfl⟩)
    go_ret
    exact ⟨by first | rfl | exact ret_int7 v.symm | (rw [v]), rfl⟩
  have ec : inR 0 1 c = true := inR_true bc
  have v : (if l < 0 ∨ 1 < l ∨ c < 0 ∨ 1 < c then 3 else 0 : Int) = 0 := by simp; omega
  go_enter Try.func26, Try.ntmps26
  go_wp2_with (go_at_call 64; refine (l1In_any _ _ _ _).mono ?_; rintro e w' ⟨rfl, rfl⟩)
  go_ret
  exact ⟨by first | rfl | exact ret_int7 v.symm | (rw [v]), rfl⟩

theorem specOpFault1 (l c : Int) (w : World) :
    Calls Try.prog 7 #[.agg #[.int .i64 1, .int .i64 l, .int .i64 c]] w fun e w' => e = .returned (.int .i64 (of7 1 l c)) ∧ Below w.heap.size w w' := by
  obtain ⟨w1, hw1⟩ : ∃ w1, w1 = w.alloc (.cells #[.int .i64 1, .int .i64 l, .int .i64 c] 25) := ⟨_, rfl⟩
  have k1 : w1.heap[w.heap.size]? = some (.cells #[.int .i64 1, .int .i64 l, .int .i64 c] 25 (0, 0)) := by rw [hw1]; exact heap_alloc_new w _
  have B1 : Hid (Below w.heap.size w w1) := by rw [hw1]; exact below_new w _
  have Z1 : Hid (w1.heap.size = w.heap.size + 1) := by show _ = _; rw [hw1]; simp
  have KS : Hid (∀ W, Below w1.heap.size w1 W → W.cell? ⟨w.heap.size, 0, none⟩ = some (.int .i64 1) ∧ W.cell? ⟨w.heap.size, 1, none⟩ = some (.int .i64 l) ∧ W.cell? ⟨w.heap.size, 2, none⟩ = some (.int .i64 c) ∧ Below w1.heap.size w1 W) := fun W hW => by
    have j := (hW.block w.heap.size (by have := Z1.out; omega)).trans k1
    exact ⟨cell_of_row W _ 0 _ _ _ j, cell_of_row W _ 1 _ _ _ j, cell_of_row W _ 2 _ _ _ j, hW⟩
  have FIN : Hid (∀ W, Below w1.heap.size w1 W → Below w.heap.size w W) := fun W hW => B1.out.trans (hW.mono (by have := Z1.out; omega))
  have HW1 := Lib.hid hw1
  clear k1 hw1
  obtain ⟨q0, q1, q2, _⟩ := KS.out w1 (Below.refl _ _)
  have C := l7Op_ff w.heap.size l c w1 q1 q2
  obtain ⟨v, hv⟩ : ∃ v, v = of7 1 l c := ⟨_, rfl⟩
  rw [show (if l ≠ 0 ∨ c ≠ 0 then 1 else 0 : Int) = v by rw [hv]; rfl] at C
  rw [← hv]
  clear hv
  go_enter Try.func7, Try.ntmps7
  go_upto_region 1 with (fail)
  rw [← HW1.out]
  clear HW1
  go_wp2_with (go_at_call 26; with_reducible refine C.mono ?_; rintro e w' ⟨rfl, rfl⟩)
  go_ret
  exact ⟨rfl, FIN.out _ (Below.refl _ _)⟩

theorem specOpFault2 (l c : Int) (w : World) :
    Calls Try.prog 7 #[.agg #[.int .i64 2, .int .i64 l, .int .i64 c]] w fun e w' => e = .returned (.int .i64 (of7 2 l c)) ∧ Below w.heap.size w w' := by
  obtain ⟨w1, hw1⟩ : ∃ w1, w1 = w.alloc (.cells #[.int .i64 2, .int .i64 l, .int .i64 c] 25) := ⟨_, rfl⟩
  have k1 : w1.heap[w.heap.size]? = some (.cells #[.int .i64 2, .int .i64 l, .int .i64 c] 25 (0, 0)) := by rw [hw1]; exact heap_alloc_new w _
  have B1 : Hid (Below w.heap.size w w1) := by rw [hw1]; exact below_new w _
  have Z1 : Hid (w1.heap.size = w.heap.size + 1) := by show _ = _; rw [hw1]; simp
  have KS : Hid (∀ W, Below w1.heap.size w1 W → W.cell? ⟨w.heap.size, 0, none⟩ = some (.int .i64 2) ∧ W.cell? ⟨w.heap.size, 1, none⟩ = some (.int .i64 l) ∧ W.cell? ⟨w.heap.size, 2, none⟩ = some (.int .i64 c) ∧ Below w1.heap.size w1 W) := fun W hW => by
    have j := (hW.block w.heap.size (by have := Z1.out; omega)).trans k1
    exact ⟨cell_of_row W _ 0 _ _ _ j, cell_of_row W _ 1 _ _ _ j, cell_of_row W _ 2 _ _ _ j, hW⟩
  have FIN : Hid (∀ W, Below w1.heap.size w1 W → Below w.heap.size w W) := fun W hW => B1.out.trans (hW.mono (by have := Z1.out; omega))
  have HW1 := Lib.hid hw1
  clear k1 hw1
  obtain ⟨q0, q1, q2, _⟩ := KS.out w1 (Below.refl _ _)
  have C := l7Op_tf w.heap.size l c w1 q1 q2
  obtain ⟨v, hv⟩ : ∃ v, v = of7 2 l c := ⟨_, rfl⟩
  rw [show (if c ≠ 0 then 1 else if l < 0 ∨ 1 < l then 3 else 0 : Int) = v by rw [hv]; rfl] at C
  rw [← hv]
  clear hv
  go_enter Try.func7, Try.ntmps7
  go_upto_region 1 with (fail)
  rw [← HW1.out]
  clear HW1
  go_wp2_with (go_at_call 26; with_reducible refine C.mono ?_; rintro e w' ⟨rfl, rfl⟩)
  go_ret
  exact ⟨rfl, FIN.out _ (Below.refl _ _)⟩

theorem specOpFault3 (l c : Int) (w : World) :
    Calls Try.prog 7 #[.agg #[.int .i64 3, .int .i64 l, .int .i64 c]] w fun e w' => e = .returned (.int .i64 (of7 3 l c)) ∧ Below w.heap.size w w' := by
  obtain ⟨w1, hw1⟩ : ∃ w1, w1 = w.alloc (.cells #[.int .i64 3, .int .i64 l, .int .i64 c] 25) := ⟨_, rfl⟩
  have k1 : w1.heap[w.heap.size]? = some (.cells #[.int .i64 3, .int .i64 l, .int .i64 c] 25 (0, 0)) := by rw [hw1]; exact heap_alloc_new w _
  have B1 : Hid (Below w.heap.size w w1) := by rw [hw1]; exact below_new w _
  have Z1 : Hid (w1.heap.size = w.heap.size + 1) := by show _ = _; rw [hw1]; simp
  have KS : Hid (∀ W, Below w1.heap.size w1 W → W.cell? ⟨w.heap.size, 0, none⟩ = some (.int .i64 3) ∧ W.cell? ⟨w.heap.size, 1, none⟩ = some (.int .i64 l) ∧ W.cell? ⟨w.heap.size, 2, none⟩ = some (.int .i64 c) ∧ Below w1.heap.size w1 W) := fun W hW => by
    have j := (hW.block w.heap.size (by have := Z1.out; omega)).trans k1
    exact ⟨cell_of_row W _ 0 _ _ _ j, cell_of_row W _ 1 _ _ _ j, cell_of_row W _ 2 _ _ _ j, hW⟩
  have FIN : Hid (∀ W, Below w1.heap.size w1 W → Below w.heap.size w W) := fun W hW => B1.out.trans (hW.mono (by have := Z1.out; omega))
  have HW1 := Lib.hid hw1
  clear k1 hw1
  obtain ⟨q0, q1, q2, _⟩ := KS.out w1 (Below.refl _ _)
  have C := l7Op_tf w.heap.size l c w1 q1 q2
  obtain ⟨v, hv⟩ : ∃ v, v = of7 3 l c := ⟨_, rfl⟩
  rw [show (if c ≠ 0 then 1 else if l < 0 ∨ 1 < l then 3 else 0 : Int) = v by rw [hv]; rfl] at C
  rw [← hv]
  clear hv
  go_enter Try.func7, Try.ntmps7
  go_upto_region 1 with (fail)
  rw [← HW1.out]
  clear HW1
  go_wp2_with (go_at_call 26; with_reducible refine C.mono ?_; rintro e w' ⟨rfl, rfl⟩)
  go_ret
  exact ⟨rfl, FIN.out _ (Below.refl _ _)⟩

theorem specOpFault4 (l c : Int) (w : World) :
    Calls Try.prog 7 #[.agg #[.int .i64 4, .int .i64 l, .int .i64 c]] w fun e w' => e = .returned (.int .i64 (of7 4 l c)) ∧ Below w.heap.size w w' := by
  obtain ⟨w1, hw1⟩ : ∃ w1, w1 = w.alloc (.cells #[.int .i64 4, .int .i64 l, .int .i64 c] 25) := ⟨_, rfl⟩
  have k1 : w1.heap[w.heap.size]? = some (.cells #[.int .i64 4, .int .i64 l, .int .i64 c] 25 (0, 0)) := by rw [hw1]; exact heap_alloc_new w _
  have B1 : Hid (Below w.heap.size w w1) := by rw [hw1]; exact below_new w _
  have Z1 : Hid (w1.heap.size = w.heap.size + 1) := by show _ = _; rw [hw1]; simp
  have KS : Hid (∀ W, Below w1.heap.size w1 W → W.cell? ⟨w.heap.size, 0, none⟩ = some (.int .i64 4) ∧ W.cell? ⟨w.heap.size, 1, none⟩ = some (.int .i64 l) ∧ W.cell? ⟨w.heap.size, 2, none⟩ = some (.int .i64 c) ∧ Below w1.heap.size w1 W) := fun W hW => by
    have j := (hW.block w.heap.size (by have := Z1.out; omega)).trans k1
    exact ⟨cell_of_row W _ 0 _ _ _ j, cell_of_row W _ 1 _ _ _ j, cell_of_row W _ 2 _ _ _ j, hW⟩
  have FIN : Hid (∀ W, Below w1.heap.size w1 W → Below w.heap.size w W) := fun W hW => B1.out.trans (hW.mono (by have := Z1.out; omega))
  have HW1 := Lib.hid hw1
  clear k1 hw1
  obtain ⟨q0, q1, q2, _⟩ := KS.out w1 (Below.refl _ _)
  have C := l7Op_tt w.heap.size l c w1 q1 q2
  obtain ⟨v, hv⟩ : ∃ v, v = of7 4 l c := ⟨_, rfl⟩
  rw [show (if l < 0 ∨ 1 < l ∨ c < 0 ∨ 1 < c then 3 else 0 : Int) = v by rw [hv]; rfl] at C
  rw [← hv]
  clear hv
  go_enter Try.func7, Try.ntmps7
  go_upto_region 1 with (fail)
  rw [← HW1.out]
  clear HW1
  go_wp2_with (go_at_call 26; with_reducible refine C.mono ?_; rintro e w' ⟨rfl, rfl⟩)
  go_ret
  exact ⟨rfl, FIN.out _ (Below.refl _ _)⟩

theorem specOpFault5 (l c : Int) (w : World) :
    Calls Try.prog 7 #[.agg #[.int .i64 5, .int .i64 l, .int .i64 c]] w fun e w' => e = .returned (.int .i64 (of7 5 l c)) ∧ Below w.heap.size w w' := by
  obtain ⟨w1, hw1⟩ : ∃ w1, w1 = w.alloc (.cells #[.int .i64 5, .int .i64 l, .int .i64 c] 25) := ⟨_, rfl⟩
  have k1 : w1.heap[w.heap.size]? = some (.cells #[.int .i64 5, .int .i64 l, .int .i64 c] 25 (0, 0)) := by rw [hw1]; exact heap_alloc_new w _
  have B1 : Hid (Below w.heap.size w w1) := by rw [hw1]; exact below_new w _
  have Z1 : Hid (w1.heap.size = w.heap.size + 1) := by show _ = _; rw [hw1]; simp
  have KS : Hid (∀ W, Below w1.heap.size w1 W → W.cell? ⟨w.heap.size, 0, none⟩ = some (.int .i64 5) ∧ W.cell? ⟨w.heap.size, 1, none⟩ = some (.int .i64 l) ∧ W.cell? ⟨w.heap.size, 2, none⟩ = some (.int .i64 c) ∧ Below w1.heap.size w1 W) := fun W hW => by
    have j := (hW.block w.heap.size (by have := Z1.out; omega)).trans k1
    exact ⟨cell_of_row W _ 0 _ _ _ j, cell_of_row W _ 1 _ _ _ j, cell_of_row W _ 2 _ _ _ j, hW⟩
  have FIN : Hid (∀ W, Below w1.heap.size w1 W → Below w.heap.size w W) := fun W hW => B1.out.trans (hW.mono (by have := Z1.out; omega))
  have HW1 := Lib.hid hw1
  clear k1 hw1
  obtain ⟨q0, q1, q2, _⟩ := KS.out w1 (Below.refl _ _)
  have C := l7Op_tt w.heap.size l c w1 q1 q2
  obtain ⟨v, hv⟩ : ∃ v, v = of7 5 l c := ⟨_, rfl⟩
  rw [show (if l < 0 ∨ 1 < l ∨ c < 0 ∨ 1 < c then 3 else 0 : Int) = v by rw [hv]; rfl] at C
  rw [← hv]
  clear hv
  go_enter Try.func7, Try.ntmps7
  go_upto_region 1 with (fail)
  rw [← HW1.out]
  clear HW1
  go_wp2_with (go_at_call 26; with_reducible refine C.mono ?_; rintro e w' ⟨rfl, rfl⟩)
  go_ret
  exact ⟨rfl, FIN.out _ (Below.refl _ _)⟩

theorem specOpFault6 (l c : Int) (w : World) :
    Calls Try.prog 7 #[.agg #[.int .i64 6, .int .i64 l, .int .i64 c]] w fun e w' => e = .returned (.int .i64 (of7 6 l c)) ∧ Below w.heap.size w w' := by
  obtain ⟨w1, hw1⟩ : ∃ w1, w1 = w.alloc (.cells #[.int .i64 6, .int .i64 l, .int .i64 c] 25) := ⟨_, rfl⟩
  have k1 : w1.heap[w.heap.size]? = some (.cells #[.int .i64 6, .int .i64 l, .int .i64 c] 25 (0, 0)) := by rw [hw1]; exact heap_alloc_new w _
  have B1 : Hid (Below w.heap.size w w1) := by rw [hw1]; exact below_new w _
  have Z1 : Hid (w1.heap.size = w.heap.size + 1) := by show _ = _; rw [hw1]; simp
  have KS : Hid (∀ W, Below w1.heap.size w1 W → W.cell? ⟨w.heap.size, 0, none⟩ = some (.int .i64 6) ∧ W.cell? ⟨w.heap.size, 1, none⟩ = some (.int .i64 l) ∧ W.cell? ⟨w.heap.size, 2, none⟩ = some (.int .i64 c) ∧ Below w1.heap.size w1 W) := fun W hW => by
    have j := (hW.block w.heap.size (by have := Z1.out; omega)).trans k1
    exact ⟨cell_of_row W _ 0 _ _ _ j, cell_of_row W _ 1 _ _ _ j, cell_of_row W _ 2 _ _ _ j, hW⟩
  have FIN : Hid (∀ W, Below w1.heap.size w1 W → Below w.heap.size w W) := fun W hW => B1.out.trans (hW.mono (by have := Z1.out; omega))
  have HW1 := Lib.hid hw1
  clear k1 hw1
  obtain ⟨q0, q1, q2, _⟩ := KS.out w1 (Below.refl _ _)
  have C := l7Op_tt w.heap.size l c w1 q1 q2
  obtain ⟨v, hv⟩ : ∃ v, v = of7 6 l c := ⟨_, rfl⟩
  rw [show (if l < 0 ∨ 1 < l ∨ c < 0 ∨ 1 < c then 3 else 0 : Int) = v by rw [hv]; rfl] at C
  rw [← hv]
  clear hv
  go_enter Try.func7, Try.ntmps7
  go_upto_region 1 with (fail)
  rw [← HW1.out]
  clear HW1
  go_wp2_with (go_at_call 26; with_reducible refine C.mono ?_; rintro e w' ⟨rfl, rfl⟩)
  go_ret
  exact ⟨rfl, FIN.out _ (Below.refl _ _)⟩

theorem specOpFault0 (k l c : Int) (w : World) (h : k ≠ 1 ∧ k ≠ 2 ∧ k ≠ 3 ∧ k ≠ 4 ∧ k ≠ 5 ∧ k ≠ 6) :
    Calls Try.prog 7 #[.agg #[.int .i64 k, .int .i64 l, .int .i64 c]] w fun e w' => e = .returned (.int .i64 (of7 k l c)) ∧ Below w.heap.size w w' := by
  obtain ⟨w1, hw1⟩ : ∃ w1, w1 = w.alloc (.cells #[.int .i64 k, .int .i64 l, .int .i64 c] 25) := ⟨_, rfl⟩
  have k1 : w1.heap[w.heap.size]? = some (.cells #[.int .i64 k, .int .i64 l, .int .i64 c] 25 (0, 0)) := by rw [hw1]; exact heap_alloc_new w _
  have B1 : Hid (Below w.heap.size w w1) := by rw [hw1]; exact below_new w _
  have Z1 : Hid (w1.heap.size = w.heap.size + 1) := by show _ = _; rw [hw1]; simp
  have KS : Hid (∀ W, Below w1.heap.size w1 W → W.cell? ⟨w.heap.size, 0, none⟩ = some (.int .i64 k) ∧ W.cell? ⟨w.heap.size, 1, none⟩ = some (.int .i64 l) ∧ W.cell? ⟨w.heap.size, 2, none⟩ = some (.int .i64 c) ∧ Below w1.heap.size w1 W) := fun W hW => by
    have j := (hW.block w.heap.size (by have := Z1.out; omega)).trans k1
    exact ⟨cell_of_row W _ 0 _ _ _ j, cell_of_row W _ 1 _ _ _ j, cell_of_row W _ 2 _ _ _ j, hW⟩
  have FIN : Hid (∀ W, Below w1.heap.size w1 W → Below w.heap.size w W) := fun W hW => B1.out.trans (hW.mono (by have := Z1.out; omega))
  have HW1 := Lib.hid hw1
  clear k1 hw1
  obtain ⟨q0, q1, q2, _⟩ := KS.out w1 (Below.refl _ _)
  obtain ⟨h1, h2, h3, h4, h5, h6⟩ := h
  have v : of7 k l c = 1 := by unfold of7; simp; omega
  go_enter Try.func7, Try.ntmps7
  go_upto_region 1 with (fail)
  rw [← HW1.out]
  clear HW1
  go_wp2
  go_ret
  exact ⟨by first | rfl | exact ret_int7 v.symm, FIN.out _ (Below.refl _ _)⟩

theorem specOpFault_any (k l c : Int) (w : World) :
    Calls Try.prog 7 #[.agg #[.int .i64 k, .int .i64 l, .int .i64 c]] w fun e w' => e = .returned (.int .i64 (of7 k l c)) ∧ Below w.heap.size w w' := by
  by_cases h1 : k = 1
  · subst h1; exact specOpFault1 l c w
  by_cases h2 : k = 2
  · subst h2; exact specOpFault2 l c w
  by_cases h3 : k = 3
  · subst h3; exact specOpFault3 l c w
  by_cases h4 : k = 4
  · subst h4; exact specOpFault4 l c w
  by_cases h5 : k = 5
  · subst h5; exact specOpFault5 l c w
  by_cases h6 : k = 6
  · subst h6; exact specOpFault6 l c w
  exact specOpFault0 k l c w ⟨h1, h2, h3, h4, h5, h6⟩

theorem toOp_any (a b c : Int) (w : World) :
    Calls Try.prog 8 #[.agg #[.int .i64 a, .int .i64 b, .int .i64 c]] w fun r w' => r = .returned (.agg #[.int .i64 a, .int .i64 b, .int .i64 c]) ∧ Below w.heap.size w w' := by
  have B3 : Hid (∀ o o' o'', Below w.heap.size w (((w.alloc o).alloc o').alloc o'')) := fun o o' o'' => (((Below.refl _ _).alloc (Nat.le_refl _) o).alloc (by simp) o').alloc (by simp; omega) o''
  go_enter Try.func8, Try.ntmps8
  go_wp2
  go_returns
  exact ⟨rfl, B3.out _ _ _⟩

set_option maxHeartbeats 1000000 in
theorem walkOpFault (k l c : Int) (w : World) :
    Calls Try.prog 3 #[.agg #[.int .i64 k, .int .i64 l, .int .i64 c]] w fun e w' => e = .returned (.bool true) ∧ Below w.heap.size w w' := by
  obtain ⟨w1, hw1⟩ : ∃ w1, w1 = w.alloc (.cells #[.int .i64 k, .int .i64 l, .int .i64 c] 23) := ⟨_, rfl⟩
  have k1 : w1.heap[w.heap.size]? = some (.cells #[.int .i64 k, .int .i64 l, .int .i64 c] 23 (0, 0)) := by rw [hw1]; exact heap_alloc_new w _
  have B1 : Hid (Below w.heap.size w w1) := by rw [hw1]; exact below_new w _
  have Z1 : Hid (w1.heap.size = w.heap.size + 1) := by show _ = _; rw [hw1]; simp
  have KS : Hid (∀ W, Below w1.heap.size w1 W → W.cell? ⟨w.heap.size, 0, none⟩ = some (.int .i64 k) ∧ W.cell? ⟨w.heap.size, 1, none⟩ = some (.int .i64 l) ∧ W.cell? ⟨w.heap.size, 2, none⟩ = some (.int .i64 c) ∧ Below w1.heap.size w1 W) := fun W hW => by
    have j := (hW.block w.heap.size (by have := Z1.out; omega)).trans k1
    exact ⟨cell_of_row W _ 0 _ _ _ j, cell_of_row W _ 1 _ _ _ j, cell_of_row W _ 2 _ _ _ j, hW⟩
  have FIN : Hid (∀ W, Below w1.heap.size w1 W → Below w.heap.size w W) := fun W hW => B1.out.trans (hW.mono (by have := Z1.out; omega))
  have HW1 := Lib.hid hw1
  clear k1 hw1
  have v0 := Below.refl w1.heap.size w1
  obtain ⟨q0, q1, q2, _⟩ := KS.out w1 v0
  go_enter Try.func3, Try.ntmps3
  go_upto_region 1 with (fail)
  rw [← HW1.out]
  clear HW1
  go_wp2_with fail
  with_reducible refine (toOp_any k l c w1).mono ?_
  rintro e w2 ⟨rfl, hb2⟩
  go_wp2_with fail
  with_reducible refine (specOpFault_any k l c w2).mono ?_
  rintro e w3 ⟨rfl, hb3⟩
  have R3 := Lib.hid (hb2.trans (hb3.mono hb2.size))
  clear hb2 hb3 q0 q1 q2
  obtain ⟨q0, q1, q2, _⟩ := KS.out w3 R3.out
  go_wp2_with fail
  with_reducible refine (toOp_any k l c w3).mono ?_
  rintro e w4 ⟨rfl, hb4⟩
  go_wp2_with fail
  with_reducible refine (implOpFault_any k l c w4).mono ?_
  rintro e w5 ⟨rfl, hb5⟩
  have R5 := Lib.hid (R3.out.trans ((hb4.trans (hb5.mono hb4.size)).mono R3.out.size))
  clear hb4 hb5
  go_wp2
  go_ret
  exact ⟨rfl, FIN.out _ R5.out⟩

end Go.Proofs.Ytachpoehejdpjaa
