/-
  The walk of FnExactIsLess: for every two entries it returns true.
-/
import Derived.Test.YtfaamjbdffcngaaSpec4a
import Derived.Test.YtfaamjbdffcngaaImpl4a
namespace Go.Proofs.Ytfaamjbdffcngaa
open Go.RowKit
set_option maxRecDepth 100000

set_option maxHeartbeats 1000000 in
theorem walkIsLess (p d p' d' : Int) (w : World) : Calls Try.prog 4 #[.agg #[.int .i64 p, .int .i64 d], .agg #[.int .i64 p', .int .i64 d']] w fun e w' => e = .returned (.bool true) ∧ Below w.heap.size w w' := by
  obtain ⟨w2, hw2⟩ : ∃ w2, w2 = (w.alloc (.cells #[.int .i64 p, .int .i64 d] 41)).alloc (.cells #[.int .i64 p', .int .i64 d'] 41) := ⟨_, rfl⟩
  have j1 : w2.heap[w.heap.size]? = some (.cells #[.int .i64 p, .int .i64 d] 41 (0, 0)) := by rw [hw2]; exact heap_alloc2_old w _ _
  have j2 : w2.heap[w.heap.size + 1]? = some (.cells #[.int .i64 p', .int .i64 d'] 41 (0, 0)) := by rw [hw2]; exact heap_alloc2_new w _ _
  have B2 : Hid (Below w.heap.size w w2) := by rw [hw2]; exact (below_new w _).alloc (by simp) _
  have Z2 : Hid (w2.heap.size = w.heap.size + 2) := by show _ = _; rw [hw2]; simp
  have QS : Hid (∀ W, Below w2.heap.size w2 W → (W.cell? ⟨w.heap.size, 0, none⟩ = some (.int .i64 p) ∧ W.cell? ⟨w.heap.size, 1, none⟩ = some (.int .i64 d) ∧ W.cell? ⟨w.heap.size + 1, 0, none⟩ = some (.int .i64 p') ∧ W.cell? ⟨w.heap.size + 1, 1, none⟩ = some (.int .i64 d'))) := fun W hW => by
    have z := Z2.out
    have i1 := (hW.block w.heap.size (by omega)).trans j1
    have i2 := (hW.block (w.heap.size + 1) (by omega)).trans j2
    exact ⟨cell_of_row W _ 0 _ _ _ i1, cell_of_row W _ 1 _ _ _ i1, cell_of_row W _ 0 _ _ _ i2, cell_of_row W _ 1 _ _ _ i2⟩
  have RX : Hid (Below w2.heap.size w2 w2) := Below.refl _ _
  obtain ⟨a0, a1, b0, b1⟩ := QS.out w2 RX.out
  have HW2 := Lib.hid hw2
  clear j1 j2 hw2
  obtain ⟨q, hq⟩ : ∃ q, q = lt4 p d p' d' := ⟨_, rfl⟩
  have SI := Lib.hid (specIsLess_any p d p' d'); have II := Lib.hid (implIsLess_any p d p' d')
  rw [← hq] at SI II
  clear hq
  have neq : ∀ W, (binOp .neq 4 (.bool q) (.bool q)).run Try.prog W = .ok (.bool false) W := fun W => by cases q <;> rfl
  go_enter Try.func4, Try.ntmps4
  go_upto_region 1 with (fail)
  rw [← HW2.out]
  clear HW2
  refine wp_region_held_drew (S := fun W => (W.cell? ⟨w.heap.size, 0, none⟩ = some (.int .i64 p) ∧ W.cell? ⟨w.heap.size, 1, none⟩ = some (.int .i64 d) ∧ W.cell? ⟨w.heap.size + 1, 0, none⟩ = some (.int .i64 p') ∧ W.cell? ⟨w.heap.size + 1, 1, none⟩ = some (.int .i64 d'))) (by kernel_rfl) (⟨a0, a1, b0, b1⟩) (fun hHeld => ?_)
  obtain ⟨v0, hv0⟩ : ∃ v0, v0 = w2.drew := ⟨_, rfl⟩
  have BL0 : Hid (Below w2.heap.size w2 v0) := by rw [hv0]; exact Below.drew (Below.refl _ _)
  rw [← hv0] at hHeld ⊢
  clear hv0
  refine wpAnyH_take (i := 0) (oi := _) (v := ?_) rfl (by kernel_rfl) (by kernel_rfl) (by kernel_rfl) (fun _ _ _ h => h) (Or.inl ⟨by rfl, ?_⟩) hHeld ?_
  rotate_left
  · (intro w hSw; (try dsimp only at hSw); go_simp; try with_reducible rfl)
  try simp only [Act.put, List.getElem_toArray, List.getElem_cons_succ, List.getElem_cons_zero, List.setIfInBounds_toArray, List.set_cons_zero, List.set_cons_succ]
  refine wpAnyH_take (i := 2) (oi := _) (v := ?_) rfl (by kernel_rfl) (by kernel_rfl) (by kernel_rfl) (fun _ _ _ h => h) (Or.inl ⟨by rfl, ?_⟩) hHeld ?_
  rotate_left
  · (intro w hSw; (try dsimp only at hSw); go_simp; try with_reducible rfl)
  try simp only [Act.put, List.getElem_toArray, List.getElem_cons_succ, List.getElem_cons_zero, List.setIfInBounds_toArray, List.set_cons_zero, List.set_cons_succ]
  refine wpAnyH_ready (rs := [1]) (by kernel_rfl) (by simp) ?_
  refine AllReadyH.cons (o := _) rfl (fun K0 hK0 => ?_) AllReadyH.nil
  go_simp
  refine (toEntry_any _ _ _).mono ?_
  rintro e9 v1 ⟨rfl, hb⟩
  have C1 := Lib.hid (BL0.out.trans (hb.mono BL0.out.size))
  clear hb
  go_wp2_with fail
  refine hK0.out _ _ (QS.out _ (RX.out.trans (C1.out.mono RX.out.size))) (fun hHeld => ?_)
  clear hK0 K0
  try simp only [Act.put, List.getElem_toArray, List.getElem_cons_succ, List.getElem_cons_zero, List.setIfInBounds_toArray, List.set_cons_zero, List.set_cons_succ]
  refine wpAnyH_ready (rs := [3]) (by kernel_rfl) (by simp) ?_
  refine AllReadyH.cons (o := _) rfl (fun K0 hK0 => ?_) AllReadyH.nil
  go_simp
  refine (toEntry_any _ _ _).mono ?_
  rintro e9 v2 ⟨rfl, hb⟩
  have C2 := Lib.hid (C1.out.trans (hb.mono C1.out.size))
  clear hb
  go_wp2_with fail
  refine hK0.out _ _ (QS.out _ (RX.out.trans (C2.out.mono RX.out.size))) (fun hHeld => ?_)
  clear hK0 K0
  try simp only [Act.put, List.getElem_toArray, List.getElem_cons_succ, List.getElem_cons_zero, List.setIfInBounds_toArray, List.set_cons_zero, List.set_cons_succ]
  refine wpAnyH_ready (rs := [4]) (by kernel_rfl) (by simp) ?_
  refine AllReadyH.cons (o := _) rfl (fun K0 hK0 => ?_) AllReadyH.nil
  go_simp
  refine (SI.out _).mono ?_
  rintro e9 v3 ⟨rfl, hb⟩
  have C3 := Lib.hid (C2.out.trans (hb.mono C2.out.size))
  clear hb
  go_wp2_with fail
  refine hK0.out _ _ (QS.out _ (RX.out.trans (C3.out.mono RX.out.size))) (fun hHeld => ?_)
  clear hK0 K0
  try simp only [Act.put, List.getElem_toArray, List.getElem_cons_succ, List.getElem_cons_zero, List.setIfInBounds_toArray, List.set_cons_zero, List.set_cons_succ]
  refine wpAnyH_take (i := 5) (oi := _) (v := ?_) rfl (by kernel_rfl) (by kernel_rfl) (by kernel_rfl) (fun _ _ _ h => h) (Or.inl ⟨by rfl, ?_⟩) hHeld ?_
  rotate_left
  · (intro w hSw; (try dsimp only at hSw); go_simp; try with_reducible rfl)
  try simp only [Act.put, List.getElem_toArray, List.getElem_cons_succ, List.getElem_cons_zero, List.setIfInBounds_toArray, List.set_cons_zero, List.set_cons_succ]
  refine wpAnyH_done (by kernel_rfl) ?_ _
  have RY := Lib.hid (RX.out.trans (C3.out.mono RX.out.size))
  clear a0 a1 b0 b1 BL0 C1 C2 C3 RX
  obtain ⟨a0, a1, b0, b1⟩ := QS.out _ RY.out
  obtain ⟨w4, hw4⟩ : ∃ w4, w4 = v3 := ⟨_, rfl⟩
  rw [← hw4] at RY a0 a1 b0 b1 ⊢
  clear hw4
  go_upto_region 2 with (fail)
  refine wp_region_held_drew (S := fun W => (W.cell? ⟨w.heap.size, 0, none⟩ = some (.int .i64 p) ∧ W.cell? ⟨w.heap.size, 1, none⟩ = some (.int .i64 d) ∧ W.cell? ⟨w.heap.size + 1, 0, none⟩ = some (.int .i64 p') ∧ W.cell? ⟨w.heap.size + 1, 1, none⟩ = some (.int .i64 d'))) (by kernel_rfl) (⟨a0, a1, b0, b1⟩) (fun hHeld => ?_)
  obtain ⟨v0, hv0⟩ : ∃ v0, v0 = w4.drew := ⟨_, rfl⟩
  have BL0 : Hid (Below w4.heap.size w4 v0) := by rw [hv0]; exact Below.drew (Below.refl _ _)
  rw [← hv0] at hHeld ⊢
  clear hv0
  refine wpAnyH_take (i := 0) (oi := _) (v := ?_) rfl (by kernel_rfl) (by kernel_rfl) (by kernel_rfl) (fun _ _ _ h => h) (Or.inl ⟨by rfl, ?_⟩) hHeld ?_
  rotate_left
  · (intro w hSw; (try dsimp only at hSw); go_simp; try with_reducible rfl)
  try simp only [Act.put, List.getElem_toArray, List.getElem_cons_succ, List.getElem_cons_zero, List.setIfInBounds_toArray, List.set_cons_zero, List.set_cons_succ]
  refine wpAnyH_take (i := 2) (oi := _) (v := ?_) rfl (by kernel_rfl) (by kernel_rfl) (by kernel_rfl) (fun _ _ _ h => h) (Or.inl ⟨by rfl, ?_⟩) hHeld ?_
  rotate_left
  · (intro w hSw; (try dsimp only at hSw); go_simp; try with_reducible rfl)
  try simp only [Act.put, List.getElem_toArray, List.getElem_cons_succ, List.getElem_cons_zero, List.setIfInBounds_toArray, List.set_cons_zero, List.set_cons_succ]
  refine wpAnyH_ready (rs := [1]) (by kernel_rfl) (by simp) ?_
  refine AllReadyH.cons (o := _) rfl (fun K0 hK0 => ?_) AllReadyH.nil
  go_simp
  refine (toEntry_any _ _ _).mono ?_
  rintro e9 v1 ⟨rfl, hb⟩
  have C1 := Lib.hid (BL0.out.trans (hb.mono BL0.out.size))
  clear hb
  go_wp2_with fail
  refine hK0.out _ _ (QS.out _ (RY.out.trans (C1.out.mono RY.out.size))) (fun hHeld => ?_)
  clear hK0 K0
  try simp only [Act.put, List.getElem_toArray, List.getElem_cons_succ, List.getElem_cons_zero, List.setIfInBounds_toArray, List.set_cons_zero, List.set_cons_succ]
  refine wpAnyH_ready (rs := [3]) (by kernel_rfl) (by simp) ?_
  refine AllReadyH.cons (o := _) rfl (fun K0 hK0 => ?_) AllReadyH.nil
  go_simp
  refine (toEntry_any _ _ _).mono ?_
  rintro e9 v2 ⟨rfl, hb⟩
  have C2 := Lib.hid (C1.out.trans (hb.mono C1.out.size))
  clear hb
  go_wp2_with fail
  refine hK0.out _ _ (QS.out _ (RY.out.trans (C2.out.mono RY.out.size))) (fun hHeld => ?_)
  clear hK0 K0
  try simp only [Act.put, List.getElem_toArray, List.getElem_cons_succ, List.getElem_cons_zero, List.setIfInBounds_toArray, List.set_cons_zero, List.set_cons_succ]
  refine wpAnyH_ready (rs := [4]) (by kernel_rfl) (by simp) ?_
  refine AllReadyH.cons (o := _) rfl (fun K0 hK0 => ?_) AllReadyH.nil
  go_simp
  refine (II.out _).mono ?_
  rintro e9 v3 ⟨rfl, hb⟩
  have C3 := Lib.hid (C2.out.trans (hb.mono C2.out.size))
  clear hb
  go_wp2_with fail
  refine hK0.out _ _ (QS.out _ (RY.out.trans (C3.out.mono RY.out.size))) (fun hHeld => ?_)
  clear hK0 K0
  try simp only [Act.put, List.getElem_toArray, List.getElem_cons_succ, List.getElem_cons_zero, List.setIfInBounds_toArray, List.set_cons_zero, List.set_cons_succ]
  refine wpAnyH_take (i := 5) (oi := _) (v := ?_) rfl (by kernel_rfl) (by kernel_rfl) (by kernel_rfl) (fun _ _ _ h => h) (Or.inl ⟨by rfl, ?_⟩) hHeld ?_
  rotate_left
  · (intro w hSw; (try dsimp only at hSw); go_simp; try with_reducible rfl)
  try simp only [Act.put, List.getElem_toArray, List.getElem_cons_succ, List.getElem_cons_zero, List.setIfInBounds_toArray, List.set_cons_zero, List.set_cons_succ]
  refine wpAnyH_done (by kernel_rfl) ?_ _
  have RZ := Lib.hid (B2.out.trans ((RY.out.trans (C3.out.mono RY.out.size)).mono B2.out.size))
  go_wp2
  go_ret
  exact ⟨rfl, RZ.out⟩

end Go.Proofs.Ytfaamjbdffcngaa
