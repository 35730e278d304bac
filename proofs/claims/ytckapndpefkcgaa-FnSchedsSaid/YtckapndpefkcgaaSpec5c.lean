/-
  The model's LeaveSched. No conditions beyond that the list can be read.
-/
import Derived.Test.YtckapndpefkcgaaSpec5b
set_option maxHeartbeats 1000000
namespace Go.Proofs.Ytckapndpefkcgaa
open Go.RowKit
set_option maxRecDepth 100000

set_option maxHeartbeats 8000000 in
theorem specLeaveSched_any (lo hi : Nat) (A : Option Addr) (c : Nat) (b : Int) (xs : List R3) (i : Int) (w : World) (hn : xs.length ≤ 9223372036854775807) (h : RS w lo hi A xs) :
    Calls Try.prog 37 #[.agg #[.int .i64 b, .slice A xs.length c], .int .i64 i] w (SA (leave5 b xs i) w) := by
  have H := Lib.hid h.lt
  obtain ⟨n, hn'⟩ : ∃ n, n = xs.length := ⟨_, rfl⟩
  have HN := Lib.hid hn'
  have HNN := Lib.hid hn
  rw [← hn']
  clear h hn' hn
  obtain ⟨w1, hw1⟩ : ∃ w1, w1 = (w.alloc (.cells #[.int .i64 b, .slice A n c] 43)).alloc (.cells #[.int .i64 0, .int .i64 0, .int .i64 0, .int .i64 0, .slice none 0 0] 56) := ⟨_, rfl⟩
  have K1 : Hid (w1.heap[w.heap.size]? = some (.cells #[.int .i64 b, .slice A n c] 43 (0, 0))) := by show _ = _; rw [hw1]; exact heap_alloc2_old w _ _
  have K2 : Hid (w1.heap[w.heap.size + 1]? = some (.cells #[.int .i64 0, .int .i64 0, .int .i64 0, .int .i64 0, .slice none 0 0] 56 (0, 0))) := by show _ = _; rw [hw1]; exact heap_alloc2_new w _ _
  have B1 : Hid (Below w.heap.size w w1) := by rw [hw1]; exact (below_new w _).alloc (by simp) _
  have Z1 : Hid (w1.heap.size = w.heap.size + 2) := by show _ = _; rw [hw1]; simp
  have KS : Hid (∀ W, Below w1.heap.size w1 W → W.cell? ⟨w.heap.size, 0, none⟩ = some (.int .i64 b) ∧ W.cell? ⟨w.heap.size, 1, none⟩ = some (.slice A n c)) := fun W hW => by
    have j := (hW.block w.heap.size (by have := Z1.out; omega)).trans K1.out
    exact ⟨cell_of_row W _ 0 _ _ _ j, cell_of_row W _ 1 _ _ _ j⟩
  have KR : Hid (∀ W, Below w1.heap.size w1 W → W.heap[w.heap.size + 1]? = some (.cells #[.int .i64 0, .int .i64 0, .int .i64 0, .int .i64 0, .slice none 0 0] 56 (0, 0))) := fun W hW => (hW.block (w.heap.size + 1) (by have := Z1.out; omega)).trans K2.out
  have FIN : Hid (∀ W, Below w1.heap.size w1 W → Below w.heap.size w W) := fun W hW => B1.out.trans (hW.mono (by have := Z1.out; omega))
  have H1 := Lib.hid (H.out.below B1.out (Nat.min_le_right _ _))
  have SF := Lib.hid (specSchedFault_any lo (min hi w.heap.size) A c b xs w1 HNN.out H1.out)
  rw [← HN.out] at SF
  obtain ⟨q0, q1⟩ := KS.out w1 (Below.refl _ _)
  have HW1 := Lib.hid hw1
  clear hw1
  by_cases hk : sf5 b xs = 0
  rotate_left
  · have HA : Hid (leave5 b xs i = e5 (sf5 b xs)) := by show _ = _; unfold leave5; rw [if_pos hk]
    have hk2 : (sf5 b xs != 0) = true := by simpa using hk
    go_enter Try.func37, Try.ntmps37
    go_upto_region 1 with (fail)
    rw [← HW1.out]
    clear HW1
    go_wp2_with fail
    refine SF.out.mono ?_
    rintro e w2 ⟨rfl, hb⟩
    have B2 := Lib.hid hb
    clear hb SF
    have RB := KR.out w2 B2.out
    have r0 := cell_of_row w2 _ 0 _ _ _ RB; have f0 := frozen_of_row w2 _ 0 _ _ RB
    have r1 := cell_of_row w2 _ 1 _ _ _ RB; have f1 := frozen_of_row w2 _ 1 _ _ RB
    have r2 := cell_of_row w2 _ 2 _ _ _ RB; have f2 := frozen_of_row w2 _ 2 _ _ RB
    have r3 := cell_of_row w2 _ 3 _ _ _ RB; have f3 := frozen_of_row w2 _ 3 _ _ RB
    have r4 := cell_of_row w2 _ 4 _ _ _ RB; have f4 := frozen_of_row w2 _ 4 _ _ RB
    simp at r0 r1 r2 r3 r4
    have HRB := Lib.hid RB
    clear RB
    generalize sf5 b xs = q at *
    go_wp2
    refine bodyPost_ret (results_cell_row rfl _ _ _ _ _ (0, 0) _ rfl (set5_block HRB.out _ _ _ _ _) Try.underlying56 rfl (by kernel_rfl)) rfl ?_
    rw [HA.out]
    exact sa_box HRB.out (by omega) (FIN.out _ B2.out) (e5 (q)) (OR.void _ _)
  obtain ⟨z1, z2, z3, z4⟩ := sf5_zero hk
  have HB := Lib.hid z1; have HO := Lib.hid z2; have HR := Lib.hid z3; have HM := Lib.hid z4
  have HK := Lib.hid hk
  rw [hk] at SF
  clear hk z1 z2 z3 z4
  go_enter Try.func37, Try.ntmps37
  go_upto_region 1 with (fail)
  rw [← HW1.out]
  clear HW1
  go_wp2_with fail
  refine SF.out.mono ?_
  rintro e w2 ⟨rfl, hb⟩
  have B2 := Lib.hid hb
  clear hb SF q0 q1
  obtain ⟨q0, q1⟩ := KS.out w2 B2.out
  have FD := Lib.hid (l5Find_any lo (min hi w.heap.size) A c xs i w2 (by have := HR.out.len; omega) (H1.out.below B2.out (by have := Z1.out; omega)))
  rw [← HN.out] at FD
  go_wp2_with fail
  refine FD.out.mono ?_
  rintro e w9 ⟨rr, rfl, hrr, rfl⟩
  by_cases hx : mth xs i = none
  · have HA : Hid (leave5 b xs i = e5 4) := by show _ = _; unfold leave5; rw [if_neg (by rw [HK.out]; decide), if_pos hx]
    have hlt : rr < 0 := hrr.2 hx
    clear hx hrr FD
    have RB := KR.out _ B2.out
    have r0 := cell_of_row w2 _ 0 _ _ _ RB; have f0 := frozen_of_row w2 _ 0 _ _ RB
    have r1 := cell_of_row w2 _ 1 _ _ _ RB; have f1 := frozen_of_row w2 _ 1 _ _ RB
    have r2 := cell_of_row w2 _ 2 _ _ _ RB; have f2 := frozen_of_row w2 _ 2 _ _ RB
    have r3 := cell_of_row w2 _ 3 _ _ _ RB; have f3 := frozen_of_row w2 _ 3 _ _ RB
    have r4 := cell_of_row w2 _ 4 _ _ _ RB; have f4 := frozen_of_row w2 _ 4 _ _ RB
    simp at r0 r1 r2 r3 r4
    have HRB := Lib.hid RB
    clear RB
    go_wp2
    refine bodyPost_ret (results_cell_row rfl _ _ _ _ _ (0, 0) _ rfl (set5_block HRB.out _ _ _ _ _) Try.underlying56 rfl (by kernel_rfl)) rfl ?_
    rw [HA.out]
    exact sa_box HRB.out (by omega) (FIN.out _ B2.out) (e5 (4)) (OR.void _ _)
  have hge : ¬ rr < 0 := fun h => hx (hrr.1 h)
  have HX := Lib.hid hx
  have HA : Hid (leave5 b xs i = if 10000000 < bas (lv5 xs i) b then e5 8 else (0, 0, rst5 b xs i, bas (lv5 xs i) b, lv5 xs i)) := by
    show _ = _
    unfold leave5 rst5
    rw [if_neg (by rw [HK.out]; decide), if_neg hx, if_neg hx]
  have LV := Lib.hid (l5Leave_any lo (min hi w.heap.size) A c w.heap.size b xs i w2 HR.out HO.out HB.out (H1.out.below B2.out (by have := Z1.out; omega)) (by rw [← HN.out]; exact (B2.out.block w.heap.size (by have := Z1.out; omega)).trans K1.out))
  generalize lv5 xs i = ys at *
  generalize rst5 b xs i = rv5 at *
  generalize bas ys b = nb at *
  clear hx hrr FD
  go_wp2_with fail
  refine LV.out.mono ?_
  rintro e w3 ⟨A', c', rfl, ho, hb⟩
  obtain ⟨w4, hw4⟩ : ∃ w4, w4 = w3.alloc (.cells #[.int .i64 nb, .slice A' ys.length c'] 43) := ⟨_, rfl⟩
  have X4 := Lib.hid (show w4.heap[w3.heap.size]? = some (.cells #[.int .i64 nb, .slice A' ys.length c'] 43 (0, 0)) by rw [hw4]; exact heap_alloc_new w3 _)
  have N4 : Below w3.heap.size w3 w4 := by rw [hw4]; exact below_new w3 _
  have B4 := Lib.hid ((B2.out.trans (hb.mono B2.out.size)).trans (N4.mono (Nat.le_trans B2.out.size hb.size)))
  have O4 := Lib.hid (OR.below (OR.mono (base' := w.heap.size) ho (by have := B2.out.size; have := Z1.out; omega)) N4 (Nat.le_refl _))
  have HW4 := Lib.hid hw4
  have l0 := cell_of_row w4 _ 0 _ _ _ X4.out; have l1 := cell_of_row w4 _ 1 _ _ _ X4.out
  simp at l0 l1
  clear ho hb hw4 N4 LV q0 q1 hge
  go_upto_region 7 with (fail)
  rw [← HW4.out]
  clear HW4
  have RB := KR.out _ B4.out
  have r0 := cell_of_row w4 _ 0 _ _ _ RB; have f0 := frozen_of_row w4 _ 0 _ _ RB
  have r1 := cell_of_row w4 _ 1 _ _ _ RB; have f1 := frozen_of_row w4 _ 1 _ _ RB
  have r2 := cell_of_row w4 _ 2 _ _ _ RB; have f2 := frozen_of_row w4 _ 2 _ _ RB
  have r3 := cell_of_row w4 _ 3 _ _ _ RB; have f3 := frozen_of_row w4 _ 3 _ _ RB
  have r4 := cell_of_row w4 _ 4 _ _ _ RB; have f4 := frozen_of_row w4 _ 4 _ _ RB
  simp at r0 r1 r2 r3 r4
  have HRB := Lib.hid RB
  clear RB
  by_cases hf : 10000000 < nb
  · have HB8 : Hid (leave5 b xs i = e5 8) := by show _ = _; rw [HA.out, if_pos hf]
    go_wp2
    refine bodyPost_ret (results_cell_row rfl _ _ _ _ _ (0, 0) _ rfl (set5_block HRB.out _ _ _ _ _) Try.underlying56 rfl (by kernel_rfl)) rfl ?_
    rw [HB8.out]
    exact sa_box HRB.out (by omega) (FIN.out _ B4.out) (e5 (8)) (OR.void _ _)
  · have HB8 : Hid (leave5 b xs i = (0, 0, rv5, nb, ys)) := by show _ = _; rw [HA.out, if_neg hf]
    go_wp2
    refine bodyPost_ret (results_cell_row rfl _ _ _ _ _ (0, 0) _ rfl (set5_block HRB.out _ _ _ _ _) Try.underlying56 rfl (by kernel_rfl)) rfl ?_
    rw [HB8.out]
    exact sa_box HRB.out (by omega) (FIN.out _ B4.out) ((0, 0, rv5, nb, ys)) (O4.out)

end Go.Proofs.Ytckapndpefkcgaa
