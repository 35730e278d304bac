/-
  OpFault: the model's and the program's, on numbers. No conditions.
-/
import Derived.Test.YtachpoehejdpjaaSpec1
import Derived.Deep.RegionHeld3
namespace Go.Proofs.Ytachpoehejdpjaa
open Go.RowKit
set_option maxRecDepth 100000

/-- the fault of an op -/
def of7 (k l c : Int) : Int :=
  if k = 1 then (if l ≠ 0 ∨ c ≠ 0 then 1 else 0)
  else if k = 2 ∨ k = 3 then (if c ≠ 0 then 1 else if l < 0 ∨ 1 < l then 3 else 0)
  else if k = 4 ∨ k = 5 ∨ k = 6 then (if l < 0 ∨ 1 < l ∨ c < 0 ∨ 1 < c then 3 else 0)
  else 1
theorem ret_int7 {a b : Int} (h : a = b) : Ending.returned (.int .i64 a) = .returned (.int .i64 b) := by rw [h]
theorem run_neq_op (a b c x y z : Int) (W : World) : (binOp .neq 25 (.agg #[.int .i64 a, .int .i64 b, .int .i64 c]) (.agg #[.int .i64 x, .int .i64 y, .int .i64 z])).run Try.prog W = .ok (.bool (!decide (a = x ∧ b = y ∧ c = z))) W := by
  by_cases h1 : a = x <;> by_cases h2 : b = y <;> by_cases h3 : c = z <;> simp [go_sem, h1, h2, h3]

theorem op1_any (l c : Int) (w : World) :
    Calls Try.prog 101 #[.agg #[]] w fun e w' => e = .returned (.agg #[.int .i64 1, .int .i64 0, .int .i64 0]) ∧ Below w.heap.size w w' := by
  have B2 : Hid (∀ o o', Below w.heap.size w ((w.alloc o).alloc o')) := fun o o' => ((Below.refl _ _).alloc (Nat.le_refl _) o).alloc (by simp) o'
  go_enter Try.func101, Try.ntmps101
  go_wp2
  go_returns
  exact ⟨rfl, B2.out _ _⟩

theorem op2_any (l c : Int) (w : World) :
    Calls Try.prog 102 #[.agg #[.int .i64 l]] w fun e w' => e = .returned (.agg #[.int .i64 2, .int .i64 l, .int .i64 0]) ∧ Below w.heap.size w w' := by
  have B2 : Hid (∀ o o', Below w.heap.size w ((w.alloc o).alloc o')) := fun o o' => ((Below.refl _ _).alloc (Nat.le_refl _) o).alloc (by simp) o'
  go_enter Try.func102, Try.ntmps102
  go_wp2
  go_returns
  exact ⟨rfl, B2.out _ _⟩

theorem op3_any (l c : Int) (w : World) :
    Calls Try.prog 103 #[.agg #[.int .i64 l]] w fun e w' => e = .returned (.agg #[.int .i64 3, .int .i64 l, .int .i64 0]) ∧ Below w.heap.size w w' := by
  have B2 : Hid (∀ o o', Below w.heap.size w ((w.alloc o).alloc o')) := fun o o' => ((Below.refl _ _).alloc (Nat.le_refl _) o).alloc (by simp) o'
  go_enter Try.func103, Try.ntmps103
  go_wp2
  go_returns
  exact ⟨rfl, B2.out _ _⟩

theorem op4_any (l c : Int) (w : World) :
    Calls Try.prog 104 #[.agg #[.int .i64 l, .int .i64 c]] w fun e w' => e = .returned (.agg #[.int .i64 4, .int .i64 l, .int .i64 c]) ∧ Below w.heap.size w w' := by
  have B2 : Hid (∀ o o', Below w.heap.size w ((w.alloc o).alloc o')) := fun o o' => ((Below.refl _ _).alloc (Nat.le_refl _) o).alloc (by simp) o'
  go_enter Try.func104, Try.ntmps104
  go_wp2
  go_returns
  exact ⟨rfl, B2.out _ _⟩

theorem op5_any (l c : Int) (w : World) :
    Calls Try.prog 105 #[.agg #[.int .i64 l, .int .i64 c]] w fun e w' => e = .returned (.agg #[.int .i64 5, .int .i64 l, .int .i64 c]) ∧ Below w.heap.size w w' := by
  have B2 : Hid (∀ o o', Below w.heap.size w ((w.alloc o).alloc o')) := fun o o' => ((Below.refl _ _).alloc (Nat.le_refl _) o).alloc (by simp) o'
  go_enter Try.func105, Try.ntmps105
  go_wp2
  go_returns
  exact ⟨rfl, B2.out _ _⟩

theorem op6_any (l c : Int) (w : World) :
    Calls Try.prog 106 #[.agg #[.int .i64 l, .int .i64 c]] w fun e w' => e = .returned (.agg #[.int .i64 6, .int .i64 l, .int .i64 c]) ∧ Below w.heap.size w w' := by
  have B2 : Hid (∀ o o', Below w.heap.size w ((w.alloc o).alloc o')) := fun o o' => ((Below.refl _ _).alloc (Nat.le_refl _) o).alloc (by simp) o'
  go_enter Try.func106, Try.ntmps106
  go_wp2
  go_returns
  exact ⟨rfl, B2.out _ _⟩

theorem deedOf1 (l c : Int) (w : World) :
    Calls Try.prog 27 #[.agg #[.int .i64 1, .int .i64 l, .int .i64 c]] w fun e w' => e = .returned (.iface 108 (.agg #[])) ∧ Below w.heap.size w w' := by
  go_enter Try.func27, Try.ntmps27
  go_wp2
  go_ret
  exact ⟨rfl, below_new w _⟩

theorem deedOf2 (l c : Int) (w : World) :
    Calls Try.prog 27 #[.agg #[.int .i64 2, .int .i64 l, .int .i64 c]] w fun e w' => e = .returned (.iface 110 (.agg #[.int .i64 l])) ∧ Below w.heap.size w w' := by
  go_enter Try.func27, Try.ntmps27
  go_wp2
  go_ret
  exact ⟨rfl, below_new w _⟩

theorem deedOf3 (l c : Int) (w : World) :
    Calls Try.prog 27 #[.agg #[.int .i64 3, .int .i64 l, .int .i64 c]] w fun e w' => e = .returned (.iface 111 (.agg #[.int .i64 l])) ∧ Below w.heap.size w w' := by
  go_enter Try.func27, Try.ntmps27
  go_wp2
  go_ret
  exact ⟨rfl, below_new w _⟩

theorem deedOf4 (l c : Int) (w : World) :
    Calls Try.prog 27 #[.agg #[.int .i64 4, .int .i64 l, .int .i64 c]] w fun e w' => e = .returned (.iface 113 (.agg #[.int .i64 l, .int .i64 c])) ∧ Below w.heap.size w w' := by
  go_enter Try.func27, Try.ntmps27
  go_wp2
  go_ret
  exact ⟨rfl, below_new w _⟩

theorem deedOf5 (l c : Int) (w : World) :
    Calls Try.prog 27 #[.agg #[.int .i64 5, .int .i64 l, .int .i64 c]] w fun e w' => e = .returned (.iface 114 (.agg #[.int .i64 l, .int .i64 c])) ∧ Below w.heap.size w w' := by
  go_enter Try.func27, Try.ntmps27
  go_wp2
  go_ret
  exact ⟨rfl, below_new w _⟩

theorem deedOf6 (l c : Int) (w : World) :
    Calls Try.prog 27 #[.agg #[.int .i64 6, .int .i64 l, .int .i64 c]] w fun e w' => e = .returned (.iface 115 (.agg #[.int .i64 l, .int .i64 c])) ∧ Below w.heap.size w w' := by
  go_enter Try.func27, Try.ntmps27
  go_wp2
  go_ret
  exact ⟨rfl, below_new w _⟩

theorem deedOf0 (k l c : Int) (w : World) (h : k ≠ 1 ∧ k ≠ 2 ∧ k ≠ 3 ∧ k ≠ 4 ∧ k ≠ 5 ∧ k ≠ 6) :
    Calls Try.prog 27 #[.agg #[.int .i64 k, .int .i64 l, .int .i64 c]] w fun e w' => e = .returned .nilIface ∧ Below w.heap.size w w' := by
  obtain ⟨h1, h2, h3, h4, h5, h6⟩ := h
  go_enter Try.func27, Try.ntmps27
  go_wp2
  go_ret
  exact ⟨rfl, below_new w _⟩

set_option maxHeartbeats 1000000 in
theorem implOpFault1 (l c : Int) (w : World) :
    Calls Try.prog 9 #[.agg #[.int .i64 1, .int .i64 l, .int .i64 c]] w fun e w' => e = .returned (.int .i64 (of7 1 l c)) ∧ Below w.heap.size w w' := by
  obtain ⟨w1, hw1⟩ : ∃ w1, w1 = w.alloc (.cells #[.int .i64 1, .int .i64 l, .int .i64 c] 25) := ⟨_, rfl⟩
  have k1 : w1.heap[w.heap.size]? = some (.cells #[.int .i64 1, .int .i64 l, .int .i64 c] 25 (0, 0)) := by rw [hw1]; exact heap_alloc_new w _
  have B1 : Hid (Below w.heap.size w w1) := by rw [hw1]; exact below_new w _
  have Z1 : Hid (w1.heap.size = w.heap.size + 1) := by show _ = _; rw [hw1]; simp
  have KS : Hid (∀ W, Below w1.heap.size w1 W → W.cell? ⟨w.heap.size, 0, none⟩ = some (.int .i64 1) ∧ W.cell? ⟨w.heap.size, 1, none⟩ = some (.int .i64 l) ∧ W.cell? ⟨w.heap.size, 2, none⟩ = some (.int .i64 c) ∧ Below w1.heap.size w1 W) := fun W hW => by
    have j := (hW.block w.heap.size (by have := Z1.out; omega)).trans k1
    exact ⟨cell_of_row W _ 0 _ _ _ j, cell_of_row W _ 1 _ _ _ j, cell_of_row W _ 2 _ _ _ j, hW⟩
  have FIN : Hid (∀ W, Below w1.heap.size w1 W → Below w.heap.size w W) := fun W hW => B1.out.trans (hW.mono (by have := Z1.out; omega))
  have HW1 := Lib.hid hw1
  clear k1 hw1
  have AO : Hid (∀ W, Below w1.heap.size w1 W → Calls Try.prog 101 #[.agg #[]] W fun e w' => e = .returned (.agg #[.int .i64 1, .int .i64 0, .int .i64 0]) ∧ Below w1.heap.size w1 w') := fun W hB => (op1_any l c W).mono fun e w' ⟨h1, h2⟩ => ⟨h1, hB.trans (h2.mono hB.size)⟩
  obtain ⟨q0, q1, q2, _⟩ := KS.out w1 (Below.refl _ _)
  go_enter Try.func9, Try.ntmps9
  go_upto_region 1 with (fail)
  rw [← HW1.out]
  clear HW1
  go_wp2_with fail
  with_reducible refine (deedOf1 l c w1).mono ?_
  rintro e w2 ⟨rfl, hb⟩
  have R2 := Lib.hid hb
  clear q0 q1 q2 hb
  go_upto_region 2 with (fail)
  have nq : ∀ W, (binOp .neq 25 (.agg #[.int .i64 1, .int .i64 0, .int .i64 0]) (.agg #[.int .i64 1, .int .i64 l, .int .i64 c])).run Try.prog W = .ok (.bool (!decide (1 = (1 : Int) ∧ 0 = l ∧ 0 = c))) W := fun W => run_neq_op _ _ _ _ _ _ W
  obtain ⟨z, hz⟩ : ∃ z, z = (!decide (1 = (1 : Int) ∧ 0 = l ∧ 0 = c)) := ⟨_, rfl⟩
  rw [← hz] at nq
  have HZ := Lib.hid hz
  clear hz
  go_cut [13] from 14 (fun s wx => s = .bool z ∧ Below w1.heap.size w1 wx)
  case first =>
    go_region_held3 (fun W => W.cell? ⟨w.heap.size, 0, none⟩ = some (.int .i64 1) ∧ W.cell? ⟨w.heap.size, 1, none⟩ = some (.int .i64 l) ∧ W.cell? ⟨w.heap.size, 2, none⟩ = some (.int .i64 c) ∧ Below w1.heap.size w1 W) (first | with_reducible exact KS.out _ (by assumption) | exact KS.out _ (Below.drew R2.out)) (first | (go_at_call 101; with_reducible refine (AO.out _ (by go_split_ands; assumption)).mono ?_; rintro e w' ⟨rfl, hb9⟩))
    all_goals (go_wp2_with fail; go_meet; exact ⟨rfl, by go_split_ands; assumption⟩)
  case rest =>
    obtain ⟨rfl, hbw⟩ := hcut
    have R := Lib.hid hbw
    clear hbw nq
    by_cases a0 : (l = 0 ∧ c = 0)
    rotate_left
    · obtain rfl : z = true := by
        rw [HZ.out, decide_eq_false (p := (1 = (1 : Int) ∧ 0 = l ∧ 0 = c)) (fun hh => a0 (by obtain ⟨_, h1, h2⟩ := hh; first | exact ⟨h1.symm, h2.symm⟩ | exact h2.symm))]
        rfl
      have v : of7 1 l c = 1 := by unfold of7; simp; omega
      obtain ⟨q0, q1, q2, _⟩ := KS.out _ R.out
      go_wp2
      go_ret
      exact ⟨by first | rfl | exact ret_int7 v.symm, FIN.out _ R.out⟩
    obtain rfl : z = false := by rw [HZ.out]; simp; omega
    obtain ⟨rfl, rfl⟩ := a0
    have v : of7 1 0 0 = 0 := by decide
    obtain ⟨q0, q1, q2, _⟩ := KS.out _ R.out
    go_wp2
    go_ret
    exact ⟨by first | rfl | exact ret_int7 v.symm, FIN.out _ R.out⟩

set_option maxHeartbeats 1000000 in
theorem implOpFault2 (l c : Int) (w : World) :
    Calls Try.prog 9 #[.agg #[.int .i64 2, .int .i64 l, .int .i64 c]] w fun e w' => e = .returned (.int .i64 (of7 2 l c)) ∧ Below w.heap.size w w' := by
  obtain ⟨w1, hw1⟩ : ∃ w1, w1 = w.alloc (.cells #[.int .i64 2, .int .i64 l, .int .i64 c] 25) := ⟨_, rfl⟩
  have k1 : w1.heap[w.heap.size]? = some (.cells #[.int .i64 2, .int .i64 l, .int .i64 c] 25 (0, 0)) := by rw [hw1]; exact heap_alloc_new w _
  have B1 : Hid (Below w.heap.size w w1) := by rw [hw1]; exact below_new w _
  have Z1 : Hid (w1.heap.size = w.heap.size + 1) := by show _ = _; rw [hw1]; simp
  have KS : Hid (∀ W, Below w1.heap.size w1 W → W.cell? ⟨w.heap.size, 0, none⟩ = some (.int .i64 2) ∧ W.cell? ⟨w.heap.size, 1, none⟩ = some (.int .i64 l) ∧ W.cell? ⟨w.heap.size, 2, none⟩ = some (.int .i64 c) ∧ Below w1.heap.size w1 W) := fun W hW => by
    have j := (hW.block w.heap.size (by have := Z1.out; omega)).trans k1
    exact ⟨cell_of_row W _ 0 _ _ _ j, cell_of_row W _ 1 _ _ _ j, cell_of_row W _ 2 _ _ _ j, hW⟩
  have FIN : Hid (∀ W, Below w1.heap.size w1 W → Below w.heap.size w W) := fun W hW => B1.out.trans (hW.mono (by have := Z1.out; omega))
  have HW1 := Lib.hid hw1
  clear k1 hw1
  have AO : Hid (∀ W, Below w1.heap.size w1 W → Calls Try.prog 102 #[.agg #[.int .i64 l]] W fun e w' => e = .returned (.agg #[.int .i64 2, .int .i64 l, .int .i64 0]) ∧ Below w1.heap.size w1 w') := fun W hB => (op2_any l c W).mono fun e w' ⟨h1, h2⟩ => ⟨h1, hB.trans (h2.mono hB.size)⟩
  obtain ⟨q0, q1, q2, _⟩ := KS.out w1 (Below.refl _ _)
  go_enter Try.func9, Try.ntmps9
  go_upto_region 1 with (fail)
  rw [← HW1.out]
  clear HW1
  go_wp2_with fail
  with_reducible refine (deedOf2 l c w1).mono ?_
  rintro e w2 ⟨rfl, hb⟩
  have R2 := Lib.hid hb
  clear q0 q1 q2 hb
  go_upto_region 2 with (fail)
  have nq : ∀ W, (binOp .neq 25 (.agg #[.int .i64 2, .int .i64 l, .int .i64 0]) (.agg #[.int .i64 2, .int .i64 l, .int .i64 c])).run Try.prog W = .ok (.bool (!decide (2 = (2 : Int) ∧ l = l ∧ 0 = c))) W := fun W => run_neq_op _ _ _ _ _ _ W
  obtain ⟨z, hz⟩ : ∃ z, z = (!decide (2 = (2 : Int) ∧ l = l ∧ 0 = c)) := ⟨_, rfl⟩
  rw [← hz] at nq
  have HZ := Lib.hid hz
  clear hz
  go_cut [13] from 14 (fun s wx => s = .bool z ∧ Below w1.heap.size w1 wx)
  case first =>
    go_region_held3 (fun W => W.cell? ⟨w.heap.size, 0, none⟩ = some (.int .i64 2) ∧ W.cell? ⟨w.heap.size, 1, none⟩ = some (.int .i64 l) ∧ W.cell? ⟨w.heap.size, 2, none⟩ = some (.int .i64 c) ∧ Below w1.heap.size w1 W) (first | with_reducible exact KS.out _ (by assumption) | exact KS.out _ (Below.drew R2.out)) (first | (go_at_call 102; with_reducible refine (AO.out _ (by go_split_ands; assumption)).mono ?_; rintro e w' ⟨rfl, hb9⟩))
    all_goals (go_wp2_with fail; go_meet; exact ⟨rfl, by go_split_ands; assumption⟩)
  case rest =>
    obtain ⟨rfl, hbw⟩ := hcut
    have R := Lib.hid hbw
    clear hbw nq
    by_cases a0 : c = 0
    rotate_left
    · obtain rfl : z = true := by
        rw [HZ.out, decide_eq_false (p := (2 = (2 : Int) ∧ l = l ∧ 0 = c)) (fun hh => a0 (by obtain ⟨_, h1, h2⟩ := hh; first | exact ⟨h1.symm, h2.symm⟩ | exact h2.symm))]
        rfl
      have v : of7 2 l c = 1 := by unfold of7; simp; omega
      obtain ⟨q0, q1, q2, _⟩ := KS.out _ R.out
      go_wp2
      go_ret
      exact ⟨by first | rfl | exact ret_int7 v.symm, FIN.out _ R.out⟩
    obtain rfl : z = false := by rw [HZ.out]; simp; omega
    subst a0
    by_cases a1 : l < 0
    · have v : of7 2 l 0 = 3 := by unfold of7; simp; omega
      obtain ⟨q0, q1, q2, _⟩ := KS.out _ R.out
      go_wp2
      go_ret
      exact ⟨by first | rfl | exact ret_int7 v.symm, FIN.out _ R.out⟩
    by_cases a2 : l ≥ 2
    · have v : of7 2 l 0 = 3 := by unfold of7; simp; omega
      obtain ⟨q0, q1, q2, _⟩ := KS.out _ R.out
      go_wp2
      go_ret
      exact ⟨by first | rfl | exact ret_int7 v.symm, FIN.out _ R.out⟩
    have v : of7 2 l 0 = 0 := by unfold of7; simp; omega
    obtain ⟨q0, q1, q2, _⟩ := KS.out _ R.out
    go_wp2
    go_ret
    exact ⟨by first | rfl | exact ret_int7 v.symm, FIN.out _ R.out⟩

set_option maxHeartbeats 1000000 in
theorem implOpFault3 (l c : Int) (w : World) :
    Calls Try.prog 9 #[.agg #[.int .i64 3, .int .i64 l, .int .i64 c]] w fun e w' => e = .returned (.int .i64 (of7 3 l c)) ∧ Below w.heap.size w w' := by
  obtain ⟨w1, hw1⟩ : ∃ w1, w1 = w.alloc (.cells #[.int .i64 3, .int .i64 l, .int .i64 c] 25) := ⟨_, rfl⟩
  have k1 : w1.heap[w.heap.size]? = some (.cells #[.int .i64 3, .int .i64 l, .int .i64 c] 25 (0, 0)) := by rw [hw1]; exact heap_alloc_new w _
  have B1 : Hid (Below w.heap.size w w1) := by rw [hw1]; exact below_new w _
  have Z1 : Hid (w1.heap.size = w.heap.size + 1) := by show _ = _; rw [hw1]; simp
  have KS : Hid (∀ W, Below w1.heap.size w1 W → W.cell? ⟨w.heap.size, 0, none⟩ = some (.int .i64 3) ∧ W.cell? ⟨w.heap.size, 1, none⟩ = some (.int .i64 l) ∧ W.cell? ⟨w.heap.size, 2, none⟩ = some (.int .i64 c) ∧ Below w1.heap.size w1 W) := fun W hW => by
    have j := (hW.block w.heap.size (by have := Z1.out; omega)).trans k1
    exact ⟨cell_of_row W _ 0 _ _ _ j, cell_of_row W _ 1 _ _ _ j, cell_of_row W _ 2 _ _ _ j, hW⟩
  have FIN : Hid (∀ W, Below w1.heap.size w1 W → Below w.heap.size w W) := fun W hW => B1.out.trans (hW.mono (by have := Z1.out; omega))
  have HW1 := Lib.hid hw1
  clear k1 hw1
  have AO : Hid (∀ W, Below w1.heap.size w1 W → Calls Try.prog 103 #[.agg #[.int .i64 l]] W fun e w' => e = .returned (.agg #[.int .i64 3, .int .i64 l, .int .i64 0]) ∧ Below w1.heap.size w1 w') := fun W hB => (op3_any l c W).mono fun e w' ⟨h1, h2⟩ => ⟨h1, hB.trans (h2.mono hB.size)⟩
  obtain ⟨q0, q1, q2, _⟩ := KS.out w1 (Below.refl _ _)
  go_enter Try.func9, Try.ntmps9
  go_upto_region 1 with (fail)
  rw [← HW1.out]
  clear HW1
  go_wp2_with fail
  with_reducible refine (deedOf3 l c w1).mono ?_
  rintro e w2 ⟨rfl, hb⟩
  have R2 := Lib.hid hb
  clear q0 q1 q2 hb
  go_upto_region 2 with (fail)
  have nq : ∀ W, (binOp .neq 25 (.agg #[.int .i64 3, .int .i64 l, .int .i64 0]) (.agg #[.int .i64 3, .int .i64 l, .int .i64 c])).run Try.prog W = .ok (.bool (!decide (3 = (3 : Int) ∧ l = l ∧ 0 = c))) W := fun W => run_neq_op _ _ _ _ _ _ W
  obtain ⟨z, hz⟩ : ∃ z, z = (!decide (3 = (3 : Int) ∧ l = l ∧ 0 = c)) := ⟨_, rfl⟩
  rw [← hz] at nq
  have HZ := Lib.hid hz
  clear hz
  go_cut [13] from 14 (fun s wx => s = .bool z ∧ Below w1.heap.size w1 wx)
  case first =>
    go_region_held3 (fun W => W.cell? ⟨w.heap.size, 0, none⟩ = some (.int .i64 3) ∧ W.cell? ⟨w.heap.size, 1, none⟩ = some (.int .i64 l) ∧ W.cell? ⟨w.heap.size, 2, none⟩ = some (.int .i64 c) ∧ Below w1.heap.size w1 W) (first | with_reducible exact KS.out _ (by assumption) | exact KS.out _ (Below.drew R2.out)) (first | (go_at_call 103; with_reducible refine (AO.out _ (by go_split_ands; assumption)).mono ?_; rintro e w' ⟨rfl, hb9⟩))
    all_goals (go_wp2_with fail; go_meet; exact ⟨rfl, by go_split_ands; assumption⟩)
  case rest =>
    obtain ⟨rfl, hbw⟩ := hcut
    have R := Lib.hid hbw
    clear hbw nq
    by_cases a0 : c = 0
    rotate_left
    · obtain rfl : z = true := by
        rw [HZ.out, decide_eq_false (p := (3 = (3 : Int) ∧ l = l ∧ 0 = c)) (fun hh => a0 (by obtain ⟨_, h1, h2⟩ := hh; first | exact ⟨h1.symm, h2.symm⟩ | exact h2.symm))]
        rfl
      have v : of7 3 l c = 1 := by unfold of7; simp; omega
      obtain ⟨q0, q1, q2, _⟩ := KS.out _ R.out
      go_wp2
      go_ret
      exact ⟨by first | rfl | exact ret_int7 v.symm, FIN.out _ R.out⟩
    obtain rfl : z = false := by rw [HZ.out]; simp; omega
    subst a0
    by_cases a1 : l < 0
    · have v : of7 3 l 0 = 3 := by unfold of7; simp; omega
      obtain ⟨q0, q1, q2, _⟩ := KS.out _ R.out
      go_wp2
      go_ret
      exact ⟨by first | rfl | exact ret_int7 v.symm, FIN.out _ R.out⟩
    by_cases a2 : l ≥ 2
    · have v : of7 3 l 0 = 3 := by unfold of7; simp; omega
      obtain ⟨q0, q1, q2, _⟩ := KS.out _ R.out
      go_wp2
      go_ret
      exact ⟨by first | rfl | exact ret_int7 v.symm, FIN.out _ R.out⟩
    have v : of7 3 l 0 = 0 := by unfold of7; simp; omega
    obtain ⟨q0, q1, q2, _⟩ := KS.out _ R.out
    go_wp2
    go_ret
    exact ⟨by first | rfl | exact ret_int7 v.symm, FIN.out _ R.out⟩

set_option maxHeartbeats 1000000 in
theorem implOpFault4 (l c : Int) (w : World) :
    Calls Try.prog 9 #[.agg #[.int .i64 4, .int .i64 l, .int .i64 c]] w fun e w' => e = .returned (.int .i64 (of7 4 l c)) ∧ Below w.heap.size w w' := by
  obtain ⟨w1, hw1⟩ : ∃ w1, w1 = w.alloc (.cells #[.int .i64 4, .int .i64 l, .int .i64 c] 25) := ⟨_, rfl⟩
  have k1 : w1.heap[w.heap.size]? = some (.cells #[.int .i64 4, .int .i64 l, .int .i64 c] 25 (0, 0)) := by rw [hw1]; exact heap_alloc_new w _
  have B1 : Hid (Below w.heap.size w w1) := by rw [hw1]; exact below_new w _
  have Z1 : Hid (w1.heap.size = w.heap.size + 1) := by show _ = _; rw [hw1]; simp
  have KS : Hid (∀ W, Below w1.heap.size w1 W → W.cell? ⟨w.heap.size, 0, none⟩ = some (.int .i64 4) ∧ W.cell? ⟨w.heap.size, 1, none⟩ = some (.int .i64 l) ∧ W.cell? ⟨w.heap.size, 2, none⟩ = some (.int .i64 c) ∧ Below w1.heap.size w1 W) := fun W hW => by
    have j := (hW.block w.heap.size (by have := Z1.out; omega)).trans k1
    exact ⟨cell_of_row W _ 0 _ _ _ j, cell_of_row W _ 1 _ _ _ j, cell_of_row W _ 2 _ _ _ j, hW⟩
  have FIN : Hid (∀ W, Below w1.heap.size w1 W → Below w.heap.size w W) := fun W hW => B1.out.trans (hW.mono (by have := Z1.out; omega))
  have HW1 := Lib.hid hw1
  clear k1 hw1
  have AO : Hid (∀ W, Below w1.heap.size w1 W → Calls Try.prog 104 #[.agg #[.int .i64 l, .int .i64 c]] W fun e w' => e = .returned (.agg #[.int .i64 4, .int .i64 l, .int .i64 c]) ∧ Below w1.heap.size w1 w') := fun W hB => (op4_any l c W).mono fun e w' ⟨h1, h2⟩ => ⟨h1, hB.trans (h2.mono hB.size)⟩
  obtain ⟨q0, q1, q2, _⟩ := KS.out w1 (Below.refl _ _)
  go_enter Try.func9, Try.ntmps9
  go_upto_region 1 with (fail)
  rw [← HW1.out]
  clear HW1
  go_wp2_with fail
  with_reducible refine (deedOf4 l c w1).mono ?_
  rintro e w2 ⟨rfl, hb⟩
  have R2 := Lib.hid hb
  clear q0 q1 q2 hb
  go_upto_region 2 with (fail)
  have nq : ∀ W, (binOp .neq 25 (.agg #[.int .i64 4, .int .i64 l, .int .i64 c]) (.agg #[.int .i64 4, .int .i64 l, .int .i64 c])).run Try.prog W = .ok (.bool (!decide (4 = (4 : Int) ∧ l = l ∧ c = c))) W := fun W => run_neq_op _ _ _ _ _ _ W
  obtain ⟨z, hz⟩ : ∃ z, z = (!decide (4 = (4 : Int) ∧ l = l ∧ c = c)) := ⟨_, rfl⟩
  rw [← hz] at nq
  have HZ := Lib.hid hz
  clear hz
  go_cut [13] from 14 (fun s wx => s = .bool z ∧ Below w1.heap.size w1 wx)
  case first =>
    go_region_held3 (fun W => W.cell? ⟨w.heap.size, 0, none⟩ = some (.int .i64 4) ∧ W.cell? ⟨w.heap.size, 1, none⟩ = some (.int .i64 l) ∧ W.cell? ⟨w.heap.size, 2, none⟩ = some (.int .i64 c) ∧ Below w1.heap.size w1 W) (first | with_reducible exact KS.out _ (by assumption) | exact KS.out _ (Below.drew R2.out)) (first | (go_at_call 104; with_reducible refine (AO.out _ (by go_split_ands; assumption)).mono ?_; rintro e w' ⟨rfl, hb9⟩))
    all_goals (go_wp2_with fail; go_meet; exact ⟨rfl, by go_split_ands; assumption⟩)
  case rest =>
    obtain ⟨rfl, hbw⟩ := hcut
    have R := Lib.hid hbw
    clear hbw nq
    obtain rfl : z = false := by rw [HZ.out]; simp
    by_cases a1 : l < 0
    · have v : of7 4 l c = 3 := by unfold of7; simp; omega
      obtain ⟨q0, q1, q2, _⟩ := KS.out _ R.out
      go_wp2
      go_ret
      exact ⟨by first | rfl | exact ret_int7 v.symm, FIN.out _ R.out⟩
    by_cases a2 : l ≥ 2
    · have v : of7 4 l c = 3 := by unfold of7; simp; omega
      obtain ⟨q0, q1, q2, _⟩ := KS.out _ R.out
      go_wp2
      go_ret
      exact ⟨by first | rfl | exact ret_int7 v.symm, FIN.out _ R.out⟩
    by_cases a3 : c < 0
    · have v : of7 4 l c = 3 := by unfold of7; simp; omega
      obtain ⟨q0, q1, q2, _⟩ := KS.out _ R.out
      go_wp2
      go_ret
      exact ⟨by first | rfl | exact ret_int7 v.symm, FIN.out _ R.out⟩
    by_cases a4 : c ≥ 2
    · have v : of7 4 l c = 3 := by unfold of7; simp; omega
      obtain ⟨q0, q1, q2, _⟩ := KS.out _ R.out
      go_wp2
      go_ret
      exact ⟨by first | rfl | exact ret_int7 v.symm, FIN.out _ R.out⟩
    have v : of7 4 l c = 0 := by unfold of7; simp; omega
    obtain ⟨q0, q1, q2, _⟩ := KS.out _ R.out
    go_wp2
    go_ret
    exact ⟨by first | rfl | exact ret_int7 v.symm, FIN.out _ R.out⟩

set_option maxHeartbeats 1000000 in
theorem implOpFault5 (l c : Int) (w : World) :
    Calls Try.prog 9 #[.agg #[.int .i64 5, .int .i64 l, .int .i64 c]] w fun e w' => e = .returned (.int .i64 (of7 5 l c)) ∧ Below w.heap.size w w' := by
  obtain ⟨w1, hw1⟩ : ∃ w1, w1 = w.alloc (.cells #[.int .i64 5, .int .i64 l, .int .i64 c] 25) := ⟨_, rfl⟩
  have k1 : w1.heap[w.heap.size]? = some (.cells #[.int .i64 5, .int .i64 l, .int .i64 c] 25 (0, 0)) := by rw [hw1]; exact heap_alloc_new w _
  have B1 : Hid (Below w.heap.size w w1) := by rw [hw1]; exact below_new w _
  have Z1 : Hid (w1.heap.size = w.heap.size + 1) := by show _ = _; rw [hw1]; simp
  have KS : Hid (∀ W, Below w1.heap.size w1 W → W.cell? ⟨w.heap.size, 0, none⟩ = some (.int .i64 5) ∧ W.cell? ⟨w.heap.size, 1, none⟩ = some (.int .i64 l) ∧ W.cell? ⟨w.heap.size, 2, none⟩ = some (.int .i64 c) ∧ Below w1.heap.size w1 W) := fun W hW => by
    have j := (hW.block w.heap.size (by have := Z1.out; omega)).trans k1
    exact ⟨cell_of_row W _ 0 _ _ _ j, cell_of_row W _ 1 _ _ _ j, cell_of_row W _ 2 _ _ _ j, hW⟩
  have FIN : Hid (∀ W, Below w1.heap.size w1 W → Below w.heap.size w W) := fun W hW => B1.out.trans (hW.mono (by have := Z1.out; omega))
  have HW1 := Lib.hid hw1
  clear k1 hw1
  have AO : Hid (∀ W, Below w1.heap.size w1 W → Calls Try.prog 105 #[.agg #[.int .i64 l, .int .i64 c]] W fun e w' => e = .returned (.agg #[.int .i64 5, .int .i64 l, .int .i64 c]) ∧ Below w1.heap.size w1 w') := fun W hB => (op5_any l c W).mono fun e w' ⟨h1, h2⟩ => ⟨h1, hB.trans (h2.mono hB.size)⟩
  obtain ⟨q0, q1, q2, _⟩ := KS.out w1 (Below.refl _ _)
  go_enter Try.func9, Try.ntmps9
  go_upto_region 1 with (fail)
  rw [← HW1.out]
  clear HW1
  go_wp2_with fail
  with_reducible refine (deedOf5 l c w1).mono ?_
  rintro e w2 ⟨rfl, hb⟩
  have R2 := Lib.hid hb
  clear q0 q1 q2 hb
  go_upto_region 2 with (fail)
  have nq : ∀ W, (binOp .neq 25 (.agg #[.int .i64 5, .int .i64 l, .int .i64 c]) (.agg #[.int .i64 5, .int .i64 l, .int .i64 c])).run Try.prog W = .ok (.bool (!decide (5 = (5 : Int) ∧ l = l ∧ c = c))) W := fun W => run_neq_op _ _ _ _ _ _ W
  obtain ⟨z, hz⟩ : ∃ z, z = (!decide (5 = (5 : Int) ∧ l = l ∧ c = c)) := ⟨_, rfl⟩
  rw [← hz] at nq
  have HZ := Lib.hid hz
  clear hz
  go_cut [13] from 14 (fun s wx => s = .bool z ∧ Below w1.heap.size w1 wx)
  case first =>
    go_region_held3 (fun W => W.cell? ⟨w.heap.size, 0, none⟩ = some (.int .i64 5) ∧ W.cell? ⟨w.heap.size, 1, none⟩ = some (.int .i64 l) ∧ W.cell? ⟨w.heap.size, 2, none⟩ = some (.int .i64 c) ∧ Below w1.heap.size w1 W) (first | with_reducible exact KS.out _ (by assumption) | exact KS.out _ (Below.drew R2.out)) (first | (go_at_call 105; with_reducible refine (AO.out _ (by go_split_ands; assumption)).mono ?_; rintro e w' ⟨rfl, hb9⟩))
    all_goals (go_wp2_with fail; go_meet; exact ⟨rfl, by go_split_ands; assumption⟩)
  case rest =>
    obtain ⟨rfl, hbw⟩ := hcut
    have R := Lib.hid hbw
    clear hbw nq
    obtain rfl : z = false := by rw [HZ.out]; simp
    by_cases a1 : l < 0
    · have v : of7 5 l c = 3 := by unfold of7; simp; omega
      obtain ⟨q0, q1, q2, _⟩ := KS.out _ R.out
      go_wp2
      go_ret
      exact ⟨by first | rfl | exact ret_int7 v.symm, FIN.out _ R.out⟩
    by_cases a2 : l ≥ 2
    · have v : of7 5 l c = 3 := by unfold of7; simp; omega
      obtain ⟨q0, q1, q2, _⟩ := KS.out _ R.out
      go_wp2
      go_ret
      exact ⟨by first | rfl | exact ret_int7 v.symm, FIN.out _ R.out⟩
    by_cases a3 : c < 0
    · have v : of7 5 l c = 3 := by unfold of7; simp; omega
      obtain ⟨q0, q1, q2, _⟩ := KS.out _ R.out
      go_wp2
      go_ret
      exact ⟨by first | rfl | exact ret_int7 v.symm, FIN.out _ R.out⟩
    by_cases a4 : c ≥ 2
    · have v : of7 5 l c = 3 := by unfold of7; simp; omega
      obtain ⟨q0, q1, q2, _⟩ := KS.out _ R.out
      go_wp2
      go_ret
      exact ⟨by first | rfl | exact ret_int7 v.symm, FIN.out _ R.out⟩
    have v : of7 5 l c = 0 := by unfold of7; simp; omega
    obtain ⟨q0, q1, q2, _⟩ := KS.out _ R.out
    go_wp2
    go_ret
    exact ⟨by first | rfl | exact ret_int7 v.symm, FIN.out _ R.out⟩

set_option maxHeartbeats 1000000 in
theorem implOpFault6 (l c : Int) (w : World) :
    Calls Try.prog 9 #[.agg #[.int .i64 6, .int .i64 l, .int .i64 c]] w fun e w' => e = .returned (.int .i64 (of7 6 l c)) ∧ Below w.heap.size w w' := by
  obtain ⟨w1, hw1⟩ : ∃ w1, w1 = w.alloc (.cells #[.int .i64 6, .int .i64 l, .int .i64 c] 25) := ⟨_, rfl⟩
  have k1 : w1.heap[w.heap.size]? = some (.cells #[.int .i64 6, .int .i64 l, .int .i64 c] 25 (0, 0)) := by rw [hw1]; exact heap_alloc_new w _
  have B1 : Hid (Below w.heap.size w w1) := by rw [hw1]; exact below_new w _
  have Z1 : Hid (w1.heap.size = w.heap.size + 1) := by show _ = _; rw [hw1]; simp
  have KS : Hid (∀ W, Below w1.heap.size w1 W → W.cell? ⟨w.heap.size, 0, none⟩ = some (.int .i64 6) ∧ W.cell? ⟨w.heap.size, 1, none⟩ = some (.int .i64 l) ∧ W.cell? ⟨w.heap.size, 2, none⟩ = some (.int .i64 c) ∧ Below w1.heap.size w1 W) := fun W hW => by
    have j := (hW.block w.heap.size (by have := Z1.out; omega)).trans k1
    exact ⟨cell_of_row W _ 0 _ _ _ j, cell_of_row W _ 1 _ _ _ j, cell_of_row W _ 2 _ _ _ j, hW⟩
  have FIN : Hid (∀ W, Below w1.heap.size w1 W → Below w.heap.size w W) := fun W hW => B1.out.trans (hW.mono (by have := Z1.out; omega))
  have HW1 := Lib.hid hw1
  clear k1 hw1
  have AO : Hid (∀ W, Below w1.heap.size w1 W → Calls Try.prog 106 #[.agg #[.int .i64 l, .int .i64 c]] W fun e w' => e = .returned (.agg #[.int .i64 6, .int .i64 l, .int .i64 c]) ∧ Below w1.heap.size w1 w') := fun W hB => (op6_any l c W).mono fun e w' ⟨h1, h2⟩ => ⟨h1, hB.trans (h2.mono hB.size)⟩
  obtain ⟨q0, q1, q2, _⟩ := KS.out w1 (Below.refl _ _)
  go_enter Try.func9, Try.ntmps9
  go_upto_region 1 with (fail)
  rw [← HW1.out]
  clear HW1
  go_wp2_with fail
  with_reducible refine (deedOf6 l c w1).mono ?_
  rintro e w2 ⟨rfl, hb⟩
  have R2 := Lib.hid hb
  clear q0 q1 q2 hb
  go_upto_region 2 with (fail)
  have nq : ∀ W, (binOp .neq 25 (.agg #[.int .i64 6, .int .i64 l, .int .i64 c]) (.agg #[.int .i64 6, .int .i64 l, .int .i64 c])).run Try.prog W = .ok (.bool (!decide (6 = (6 : Int) ∧ l = l ∧ c = c))) W := fun W => run_neq_op _ _ _ _ _ _ W
  obtain ⟨z, hz⟩ : ∃ z, z = (!decide (6 = (6 : Int) ∧ l = l ∧ c = c)) := ⟨_, rfl⟩
  rw [← hz] at nq
  have HZ := Lib.hid hz
  clear hz
  go_cut [13] from 14 (fun s wx => s = .bool z ∧ Below w1.heap.size w1 wx)
  case first =>
    go_region_held3 (fun W => W.cell? ⟨w.heap.size, 0, none⟩ = some (.int .i64 6) ∧ W.cell? ⟨w.heap.size, 1, none⟩ = some (.int .i64 l) ∧ W.cell? ⟨w.heap.size, 2, none⟩ = some (.int .i64 c) ∧ Below w1.heap.size w1 W) (first | with_reducible exact KS.out _ (by assumption) | exact KS.out _ (Below.drew R2.out)) (first | (go_at_call 106; with_reducible refine (AO.out _ (by go_split_ands; assumption)).mono ?_; rintro e w' ⟨rfl, hb9⟩))
    all_goals (go_wp2_with fail; go_meet; exact ⟨rfl, by go_split_ands; assumption⟩)
  case rest =>
    obtain ⟨rfl, hbw⟩ := hcut
    have R := Lib.hid hbw
    clear hbw nq
    obtain rfl : z = false := by rw [HZ.out]; simp
    by_cases a1 : l < 0
    · have v : of7 6 l c = 3 := by unfold of7; simp; omega
      obtain ⟨q0, q1, q2, _⟩ := KS.out _ R.out
      go_wp2
      go_ret
      exact ⟨by first | rfl | exact ret_int7 v.symm, FIN.out _ R.out⟩
    by_cases a2 : l ≥ 2
    · have v : of7 6 l c = 3 := by unfold of7; simp; omega
      obtain ⟨q0, q1, q2, _⟩ := KS.out _ R.out
      go_wp2
      go_ret
      exact ⟨by first | rfl | exact ret_int7 v.symm, FIN.out _ R.out⟩
    by_cases a3 : c < 0
    · have v : of7 6 l c = 3 := by unfold of7; simp; omega
      obtain ⟨q0, q1, q2, _⟩ := KS.out _ R.out
      go_wp2
      go_ret
      exact ⟨by first | rfl | exact ret_int7 v.symm, FIN.out _ R.out⟩
    by_cases a4 : c ≥ 2
    · have v : of7 6 l c = 3 := by unfold of7; simp; omega
      obtain ⟨q0, q1, q2, _⟩ := KS.out _ R.out
      go_wp2
      go_ret
      exact ⟨by first | rfl | exact ret_int7 v.symm, FIN.out _ R.out⟩
    have v : of7 6 l c = 0 := by unfold of7; simp; omega
    obtain ⟨q0, q1, q2, _⟩ := KS.out _ R.out
    go_wp2
    go_ret
    exact ⟨by first | rfl | exact ret_int7 v.symm, FIN.out _ R.out⟩

theorem implOpFault0 (k l c : Int) (w : World) (h : k ≠ 1 ∧ k ≠ 2 ∧ k ≠ 3 ∧ k ≠ 4 ∧ k ≠ 5 ∧ k ≠ 6) :
    Calls Try.prog 9 #[.agg #[.int .i64 k, .int .i64 l, .int .i64 c]] w fun e w' => e = .returned (.int .i64 (of7 k l c)) ∧ Below w.heap.size w w' := by
  obtain ⟨w1, hw1⟩ : ∃ w1, w1 = w.alloc (.cells #[.int .i64 k, .int .i64 l, .int .i64 c] 25) := ⟨_, rfl⟩
  have k1 : w1.heap[w.heap.size]? = some (.cells #[.int .i64 k, .int .i64 l, .int .i64 c] 25 (0, 0)) := by rw [hw1]; exact heap_alloc_new w _
  have B1 : Hid (Below w.heap.size w w1) := by rw [hw1]; exact below_new w _
  have Z1 : Hid (w1.heap.size = w.heap.size + 1) := by show _ = _; rw [hw1]; simp
  have KS : Hid (∀ W, Below w1.heap.size w1 W → W.cell? ⟨w.heap.size, 0, none⟩ = some (.int .i64 k) ∧ W.cell? ⟨w.heap.size, 1, none⟩ = some (.int .i64 l) ∧ W.cell? ⟨w.heap.size, 2, none⟩ = some (.int .i64 c) ∧ Below w1.heap.size w1 W) := fun W hW => by
    have j := (hW.block w.heap.size (by have := Z1.out; omega)).trans k1
    exact ⟨cell_of_row W _ 0 _ _ _ j, cell_of_row W _ 1 _ _ _ j, cell_of_row W _ 2 _ _ _ j, hW⟩
  have FIN : Hid (∀ W, Below w1.heap.size w1 W → Below w.heap.size w W) := fun W hW => B1.out.trans (hW.mono (by have := Z1.out; omega))
  have HW1 := Lib.hid hw1
  clear k1 hw1
  have v : of7 k l c = 1 := by unfold of7; simp; omega
  obtain ⟨q0, q1, q2, _⟩ := KS.out w1 (Below.refl _ _)
  go_enter Try.func9, Try.ntmps9
  go_upto_region 1 with (fail)
  rw [← HW1.out]
  clear HW1
  go_wp2_with fail
  with_reducible refine (deedOf0 k l c w1 h).mono ?_
  rintro e w2 ⟨rfl, hb⟩
  have R2 := Lib.hid hb
  clear q0 q1 q2 hb
  go_upto_region 2 with (fail)
  go_cut [13] from 14 (fun s wx => s = .bool true ∧ Below w1.heap.size w1 wx)
  case first =>
    obtain ⟨q0, q1, q2, _⟩ := KS.out w2 R2.out
    go_region
    all_goals (go_wp2_with fail; go_meet; exact ⟨rfl, Below.drew R2.out⟩)
  case rest =>
    obtain ⟨rfl, hbw⟩ := hcut
    go_wp2
    go_ret
    exact ⟨by first | rfl | exact ret_int7 v.symm, FIN.out _ hbw⟩
theorem implOpFault_any (k l c : Int) (w : World) :
    Calls Try.prog 9 #[.agg #[.int .i64 k, .int .i64 l, .int .i64 c]] w fun e w' => e = .returned (.int .i64 (of7 k l c)) ∧ Below w.heap.size w w' := by
  by_cases h1 : k = 1
  · subst h1; exact implOpFault1 l c w
  by_cases h2 : k = 2
  · subst h2; exact implOpFault2 l c w
  by_cases h3 : k = 3
  · subst h3; exact implOpFault3 l c w
  by_cases h4 : k = 4
  · subst h4; exact implOpFault4 l c w
  by_cases h5 : k = 5
  · subst h5; exact implOpFault5 l c w
  by_cases h6 : k = 6
  · subst h6; exact implOpFault6 l c w
  exact implOpFault0 k l c w ⟨h1, h2, h3, h4, h5, h6⟩

end Go.Proofs.Ytachpoehejdpjaa
