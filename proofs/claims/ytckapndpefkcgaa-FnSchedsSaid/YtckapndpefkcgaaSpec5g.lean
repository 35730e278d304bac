/-
  The model's JoinSched. No conditions beyond that the list can be read.
-/
import Derived.Test.YtckapndpefkcgaaSpec5d
set_option maxHeartbeats 1000000
namespace Go.Proofs.Ytckapndpefkcgaa
open Go.RowKit
set_option maxRecDepth 100000

set_option maxHeartbeats 8000000 in
theorem specJoinSched_any (lo hi : Nat) (A : Option Addr) (c : Nat) (b : Int) (xs : List R3) (i t r : Int) (w : World) (hn : xs.length ≤ 9223372036854775807) (h : RS w lo hi A xs) :
    Calls Try.prog 35 #[.agg #[.int .i64 b, .slice A xs.length c], .int .i64 i, .int .i64 t, .int .i64 r] w (SA (join5 b xs i t r) w) := by
  have H := Lib.hid h.lt
  obtain ⟨n, hn'⟩ : ∃ n, n = xs.length := ⟨_, rfl⟩
  have HN := Lib.hid hn'
  have HNN := Lib.hid hn
  rw [← hn']
  clear h hn' hn
  obtain ⟨w1, hw1⟩ : ∃ w1, w1 = (w.alloc (.cells #[.int .i64 b, .slice A n c] 43)).alloc (.cells #[.int .i64 0, .int .i64 0, .int .i64 0, .int .i64 0, .slice none 0 0] 56) := ⟨_, rfl⟩
  have K1 : Hid (w1.heap[w.heap.size]? = some (.cells #[.int .i64 b, .slice A n c] 43 (0, 0))) := by show _ = _; rw [hw1]; exact heap_alloc2_old w _ _
  have K2 : Hid (w1.heap[w.heap.size + 1]? = some (.cells #[.int .i64 0, .int .i64 0, .int .i64 0, .int .i64 0, .slice none 0 0] 56 (0, 0))) := by show _ = _; rw [hw1]; exact heap_alloc2_new w _ _
  have B1 : Hid (Below w.heap.size w w1) := by rw [hw1]; exact (below_new w _).alloc (by simp) _
  have Z1 : Hid (w1.heap.size = w.heap.size + 2) := by show _ = _; rw [hw1]; simp
  have KS : Hid (∀ W, Below w1.heap.size w1 W → W.cell? ⟨w.heap.size, 0, none⟩ = some (.int .i64 b) ∧ W.cell? ⟨w.heap.size, 1, none⟩ = some (.slice A n c)) := fun W hW => by
    have j := (hW.block w.heap.size (by have := Z1.out; omega)).trans K1.out
    exact ⟨cell_of_row W _ 0 _ _ _ j, cell_of_row W _ 1 _ _ _ j⟩
  have KR : Hid (∀ W, Below w1.heap.size w1 W → W.heap[w.heap.size + 1]? = some (.cells #[.int .i64 0, .int .i64 0, .int .i64 0, .int .i64 0, .slice none 0 0] 56 (0, 0))) := fun W hW => (hW.block (w.heap.size + 1) (by have := Z1.out; omega)).trans K2.out
  have FIN : Hid (∀ W, Below w1.heap.size w1 W → Below w.heap.size w W) := fun W hW => B1.out.trans (hW.mono (by have := Z1.out; omega))
  have H1 := Lib.hid (H.out.below B1.out (Nat.min_le_right _ _))
  have SF := Lib.hid (specSchedFault_any lo (min hi w.heap.size) A c b xs w1 HNN.out H1.out)
  rw [← HN.out] at SF
  obtain ⟨q0, q1⟩ := KS.out w1 (Below.refl _ _)
  have HW1 := Lib.hid hw1
  clear hw1
  by_cases hk : sf5 b xs = 0
  rotate_left
  · have HA : Hid (join5 b xs i t r = e5 (sf5 b xs)) := by show _ = _; unfold join5; rw [if_pos hk]
    have hk2 : (sf5 b xs != 0) = true := by simpa using hk
    go_enter Try.func35, Try.ntmps35
    go_upto_region 1 with (fail)
    rw [← HW1.out]
    clear HW1
    go_wp2_with fail
    refine SF.out.mono ?_
    rintro e w2 ⟨rfl, hb⟩
    have B2 := Lib.hid hb
    clear hb SF
    have RB := KR.out w2 B2.out
    have r0 := cell_of_row w2 _ 0 _ _ _ RB; have f0 := frozen_of_row w2 _ 0 _ _ RB
    have r1 := cell_of_row w2 _ 1 _ _ _ RB; have f1 := frozen_of_row w2 _ 1 _ _ RB
    have r2 := cell_of_row w2 _ 2 _ _ _ RB; have f2 := frozen_of_row w2 _ 2 _ _ RB
    have r3 := cell_of_row w2 _ 3 _ _ _ RB; have f3 := frozen_of_row w2 _ 3 _ _ RB
    have r4 := cell_of_row w2 _ 4 _ _ _ RB; have f4 := frozen_of_row w2 _ 4 _ _ RB
    simp at r0 r1 r2 r3 r4
    have HRB := Lib.hid RB
    clear RB
    generalize sf5 b xs = q at *
    go_wp2
    refine bodyPost_ret (results_cell_row rfl _ _ _ _ _ (0, 0) _ rfl (set5_block HRB.out _ _ _ _ _) Try.underlying56 rfl (by kernel_rfl)) rfl ?_
    rw [HA.out]
    exact sa_box HRB.out (by omega) (FIN.out _ B2.out) (e5 (q)) (OR.void _ _)
  obtain ⟨z1, z2, z3, z4⟩ := sf5_zero hk
  have HB := Lib.hid z1; have HO := Lib.hid z2; have HR := Lib.hid z3; have HM := Lib.hid z4
  have HK := Lib.hid hk
  rw [hk] at SF
  clear hk z1 z2 z3 z4
  go_enter Try.func35, Try.ntmps35
  go_upto_region 1 with (fail)
  rw [← HW1.out]
  clear HW1
  go_wp2_with fail
  refine SF.out.mono ?_
  rintro e w2 ⟨rfl, hb⟩
  have B2 := Lib.hid hb
  clear hb SF q0 q1
  obtain ⟨q0, q1⟩ := KS.out w2 B2.out
  have HA : Hid (join5 b xs i t r = if ¬ (okId i = true ∧ okT t = true ∧ 0 ≤ r ∧ r ≤ strd t) then e5 3 else if mth xs i ≠ none then e5 6 else if 10000000 < b + r then e5 8 else (0, 0, 0, bas (ins5 xs (i, t, b + r)) b, ins5 xs (i, t, b + r))) := by
    show _ = _
    unfold join5
    rw [if_neg (by rw [HK.out]; decide)]
  have IT := Lib.hid (l5Id_any i)
  have AT := Lib.hid (l5Tickets_any t)
  rcases hi : okId i with _ | _
  · have H3 : Hid (join5 b xs i t r = e5 3) := by show _ = _; rw [HA.out, if_pos (by rw [hi]; simp)]
    rw [hi] at IT
    clear hi
    go_wp2_with fail
    refine (IT.out _).mono ?_
    rintro e9 w9 ⟨rfl, rfl⟩
    have RB := KR.out _ B2.out
    have r0 := cell_of_row w2 _ 0 _ _ _ RB; have f0 := frozen_of_row w2 _ 0 _ _ RB
    have r1 := cell_of_row w2 _ 1 _ _ _ RB; have f1 := frozen_of_row w2 _ 1 _ _ RB
    have r2 := cell_of_row w2 _ 2 _ _ _ RB; have f2 := frozen_of_row w2 _ 2 _ _ RB
    have r3 := cell_of_row w2 _ 3 _ _ _ RB; have f3 := frozen_of_row w2 _ 3 _ _ RB
    have r4 := cell_of_row w2 _ 4 _ _ _ RB; have f4 := frozen_of_row w2 _ 4 _ _ RB
    simp at r0 r1 r2 r3 r4
    have HRB := Lib.hid RB
    clear RB
    go_wp2
    refine bodyPost_ret (results_cell_row rfl _ _ _ _ _ (0, 0) _ rfl (set5_block HRB.out _ _ _ _ _) Try.underlying56 rfl (by kernel_rfl)) rfl ?_
    rw [H3.out]
    exact sa_box HRB.out (by omega) (FIN.out _ B2.out) (e5 (3)) (OR.void _ _)
  rcases ht : okT t with _ | _
  · have H3 : Hid (join5 b xs i t r = e5 3) := by show _ = _; rw [HA.out, if_pos (by rw [ht]; simp)]
    rw [hi] at IT
    rw [ht] at AT
    clear hi ht
    go_wp2_with fail
    refine (IT.out _).mono ?_
    rintro e9 w9 ⟨rfl, rfl⟩
    go_wp2_with fail
    refine (AT.out _).mono ?_
    rintro e9 w9 ⟨rfl, rfl⟩
    have RB := KR.out _ B2.out
    have r0 := cell_of_row w2 _ 0 _ _ _ RB; have f0 := frozen_of_row w2 _ 0 _ _ RB
    have r1 := cell_of_row w2 _ 1 _ _ _ RB; have f1 := frozen_of_row w2 _ 1 _ _ RB
    have r2 := cell_of_row w2 _ 2 _ _ _ RB; have f2 := frozen_of_row w2 _ 2 _ _ RB
    have r3 := cell_of_row w2 _ 3 _ _ _ RB; have f3 := frozen_of_row w2 _ 3 _ _ RB
    have r4 := cell_of_row w2 _ 4 _ _ _ RB; have f4 := frozen_of_row w2 _ 4 _ _ RB
    simp at r0 r1 r2 r3 r4
    have HRB := Lib.hid RB
    clear RB
    go_wp2
    refine bodyPost_ret (results_cell_row rfl _ _ _ _ _ (0, 0) _ rfl (set5_block HRB.out _ _ _ _ _) Try.underlying56 rfl (by kernel_rfl)) rfl ?_
    rw [H3.out]
    exact sa_box HRB.out (by omega) (FIN.out _ B2.out) (e5 (3)) (OR.void _ _)
  have SI := Lib.hid (strd_in ht)
  have HI := Lib.hid hi; have HT := Lib.hid ht
  obtain ⟨t1, t2⟩ := okT_iff.1 ht
  have tn : ¬ t = 0 := by omega
  have hd : (2520 : Int).tdiv t = strd t := Int.tdiv_eq_ediv_of_nonneg (by omega)
  have hw : IntKind.i64.wrap (strd t) = strd t := IntWalk.i64_in _ (by have := SI.out; omega)
  have LI := Lib.hid (l1In_any r 0 (strd t))
  rw [hi] at IT
  rw [ht] at AT
  clear hi ht t1 t2
  by_cases hq : 0 ≤ r ∧ r ≤ strd t
  rotate_left
  · have H3 : Hid (join5 b xs i t r = e5 3) := by show _ = _; rw [HA.out, if_pos (by omega)]
    rw [inR_false hq] at LI
    clear hq
    go_wp2_with fail
    refine (IT.out _).mono ?_
    rintro e9 w9 ⟨rfl, rfl⟩
    go_wp2_with fail
    refine (AT.out _).mono ?_
    rintro e9 w9 ⟨rfl, rfl⟩
    go_wp2_with fail
    refine (LI.out _).mono ?_
    rintro e9 w9 ⟨rfl, rfl⟩
    have RB := KR.out _ B2.out
    have r0 := cell_of_row w2 _ 0 _ _ _ RB; have f0 := frozen_of_row w2 _ 0 _ _ RB
    have r1 := cell_of_row w2 _ 1 _ _ _ RB; have f1 := frozen_of_row w2 _ 1 _ _ RB
    have r2 := cell_of_row w2 _ 2 _ _ _ RB; have f2 := frozen_of_row w2 _ 2 _ _ RB
    have r3 := cell_of_row w2 _ 3 _ _ _ RB; have f3 := frozen_of_row w2 _ 3 _ _ RB
    have r4 := cell_of_row w2 _ 4 _ _ _ RB; have f4 := frozen_of_row w2 _ 4 _ _ RB
    simp at r0 r1 r2 r3 r4
    have HRB := Lib.hid RB
    clear RB
    go_wp2
    refine bodyPost_ret (results_cell_row rfl _ _ _ _ _ (0, 0) _ rfl (set5_block HRB.out _ _ _ _ _) Try.underlying56 rfl (by kernel_rfl)) rfl ?_
    rw [H3.out]
    exact sa_box HRB.out (by omega) (FIN.out _ B2.out) (e5 (3)) (OR.void _ _)
  have HC : Hid (join5 b xs i t r = if mth xs i ≠ none then e5 6 else if 10000000 < b + r then e5 8 else (0, 0, 0, bas (ins5 xs (i, t, b + r)) b, ins5 xs (i, t, b + r))) := by
    show _ = _
    rw [HA.out, if_neg (by rw [HI.out, HT.out]; simp; omega)]
  have RI := Lib.hid (show 0 ≤ r ∧ r ≤ 2520 by have := SI.out; omega)
  rw [inR_true hq] at LI
  clear hq
  go_wp2_with fail
  refine (IT.out _).mono ?_
  rintro e9 w9 ⟨rfl, rfl⟩
  go_wp2_with fail
  refine (AT.out _).mono ?_
  rintro e9 w9 ⟨rfl, rfl⟩
  go_wp2_with fail
  refine (LI.out _).mono ?_
  rintro e9 w9 ⟨rfl, rfl⟩
  have FD := Lib.hid (l5Find_any lo (min hi w.heap.size) A c xs i w2 (by have := HR.out.len; omega) (H1.out.below B2.out (by have := Z1.out; omega)))
  rw [← HN.out] at FD
  go_upto_region 6 with (fail)
  clear hd hw tn
  go_wp2_with fail
  refine FD.out.mono ?_
  rintro e w9 ⟨rr, rfl, hrr, rfl⟩
  by_cases hx : mth xs i = none
  rotate_left
  · have H6 : Hid (join5 b xs i t r = e5 6) := by show _ = _; rw [HC.out, if_pos hx]
    have hge : 0 ≤ rr := by
      rcases Int.lt_or_le rr 0 with h | h
      · exact absurd (hrr.1 h) hx
      · exact h
    clear hx hrr FD
    have RB := KR.out _ B2.out
    have r0 := cell_of_row w2 _ 0 _ _ _ RB; have f0 := frozen_of_row w2 _ 0 _ _ RB
    have r1 := cell_of_row w2 _ 1 _ _ _ RB; have f1 := frozen_of_row w2 _ 1 _ _ RB
    have r2 := cell_of_row w2 _ 2 _ _ _ RB; have f2 := frozen_of_row w2 _ 2 _ _ RB
    have r3 := cell_of_row w2 _ 3 _ _ _ RB; have f3 := frozen_of_row w2 _ 3 _ _ RB
    have r4 := cell_of_row w2 _ 4 _ _ _ RB; have f4 := frozen_of_row w2 _ 4 _ _ RB
    simp at r0 r1 r2 r3 r4
    have HRB := Lib.hid RB
    clear RB
    go_wp2
    refine bodyPost_ret (results_cell_row rfl _ _ _ _ _ (0, 0) _ rfl (set5_block HRB.out _ _ _ _ _) Try.underlying56 rfl (by kernel_rfl)) rfl ?_
    rw [H6.out]
    exact sa_box HRB.out (by omega) (FIN.out _ B2.out) (e5 (6)) (OR.void _ _)
  have hlt : ¬ 0 ≤ rr := by have := hrr.2 hx; omega
  have HD : Hid (join5 b xs i t r = if 10000000 < b + r then e5 8 else (0, 0, 0, bas (ins5 xs (i, t, b + r)) b, ins5 xs (i, t, b + r))) := by
    show _ = _
    rw [HC.out, if_neg (by rw [hx]; simp)]
  have HX := Lib.hid hx
  have wr : IntKind.i64.wrap (b + r) = b + r := IntWalk.i64_in _ (by have := HB.out; have := RI.out; omega)
  clear hx hrr FD
  by_cases hf : 10000000 < b + r
  · have H8 : Hid (join5 b xs i t r = e5 8) := by show _ = _; rw [HD.out, if_pos hf]
    have RB := KR.out _ B2.out
    have r0 := cell_of_row w2 _ 0 _ _ _ RB; have f0 := frozen_of_row w2 _ 0 _ _ RB
    have r1 := cell_of_row w2 _ 1 _ _ _ RB; have f1 := frozen_of_row w2 _ 1 _ _ RB
    have r2 := cell_of_row w2 _ 2 _ _ _ RB; have f2 := frozen_of_row w2 _ 2 _ _ RB
    have r3 := cell_of_row w2 _ 3 _ _ _ RB; have f3 := frozen_of_row w2 _ 3 _ _ RB
    have r4 := cell_of_row w2 _ 4 _ _ _ RB; have f4 := frozen_of_row w2 _ 4 _ _ RB
    simp at r0 r1 r2 r3 r4
    have HRB := Lib.hid RB
    clear RB
    go_wp2
    refine bodyPost_ret (results_cell_row rfl _ _ _ _ _ (0, 0) _ rfl (set5_block HRB.out _ _ _ _ _) Try.underlying56 rfl (by kernel_rfl)) rfl ?_
    rw [H8.out]
    exact sa_box HRB.out (by omega) (FIN.out _ B2.out) (e5 (8)) (OR.void _ _)
  have H0 : Hid (join5 b xs i t r = (0, 0, 0, bas (ins5 xs (i, t, b + r)) b, ins5 xs (i, t, b + r))) := by show _ = _; rw [HD.out, if_neg hf]
  have JN := Lib.hid (l5Join_any lo (min hi w.heap.size) A c w.heap.size b xs i t 0 r w2 HR.out.len HB.out (by have := RI.out; omega) (H1.out.below B2.out (by have := Z1.out; omega)) (by rw [← HN.out]; exact (B2.out.block w.heap.size (by have := Z1.out; omega)).trans K1.out))
  generalize ins5 xs (i, t, b + r) = ys at *
  generalize bas ys b = nb at *
  go_wp2_with fail
  refine JN.out.mono ?_
  rintro e w3 ⟨A', c', rfl, ho, hb⟩
  have O3 := Lib.hid (OR.mono (base' := w.heap.size) ho (by have := B2.out.size; have := Z1.out; omega))
  have B3 := Lib.hid (B2.out.trans (hb.mono B2.out.size))
  clear ho hb JN q0 q1
  have RB := KR.out _ B3.out
  have r0 := cell_of_row w3 _ 0 _ _ _ RB; have f0 := frozen_of_row w3 _ 0 _ _ RB
  have r1 := cell_of_row w3 _ 1 _ _ _ RB; have f1 := frozen_of_row w3 _ 1 _ _ RB
  have r2 := cell_of_row w3 _ 2 _ _ _ RB; have f2 := frozen_of_row w3 _ 2 _ _ RB
  have r3 := cell_of_row w3 _ 3 _ _ _ RB; have f3 := frozen_of_row w3 _ 3 _ _ RB
  have r4 := cell_of_row w3 _ 4 _ _ _ RB; have f4 := frozen_of_row w3 _ 4 _ _ RB
  simp at r0 r1 r2 r3 r4
  have HRB := Lib.hid RB
  clear RB
  go_wp2
  refine bodyPost_ret (results_cell_row rfl _ _ _ _ _ (0, 0) _ rfl (set5_block HRB.out _ _ _ _ _) Try.underlying56 rfl (by kernel_rfl)) rfl ?_
  rw [H0.out]
  exact sa_box HRB.out (by omega) (FIN.out _ B3.out) ((0, 0, 0, nb, ys)) (O3.out)

end Go.Proofs.Ytckapndpefkcgaa
