/-
  The program's JoinSched. No conditions beyond that the list can be read.
-/
import Derived.Test.YtckapndpefkcgaaAns5
set_option maxHeartbeats 1000000
namespace Go.Proofs.Ytckapndpefkcgaa
open Go.RowKit
set_option maxRecDepth 100000

set_option maxHeartbeats 8000000 in
theorem implJoinSched_any (lo hi : Nat) (A : Option Addr) (c : Nat) (b : Int) (xs : List R3) (i t r : Int) (w : World) (hn : xs.length ≤ 9223372036854775807) (h : RS w lo hi A xs) :
    Calls Try.prog 30 #[.agg #[.int .i64 b, .slice A xs.length c], .int .i64 i, .int .i64 t, .int .i64 r] w (SA (join5 b xs i t r) w) := by
  have H := Lib.hid h.lt
  obtain ⟨n, hn'⟩ : ∃ n, n = xs.length := ⟨_, rfl⟩
  have HN := Lib.hid hn'
  have HNN := Lib.hid hn
  rw [← hn']
  clear h hn' hn
  obtain ⟨w1, hw1⟩ : ∃ w1, w1 = (w.alloc (.cells #[.int .i64 b, .slice A n c] 43)).alloc (.cells #[.int .i64 0, .int .i64 0, .int .i64 0, .int .i64 0, .slice none 0 0] 56) := ⟨_, rfl⟩
  have K1 : Hid (w1.heap[w.heap.size]? = some (.cells #[.int .i64 b, .slice A n c] 43 (0, 0))) := by show _ = _; rw [hw1]; exact heap_alloc2_old w _ _
  have K2 : Hid (w1.heap[w.heap.size + 1]? = some (.cells #[.int .i64 0, .int .i64 0, .int .i64 0, .int .i64 0, .slice none 0 0] 56 (0, 0))) := by show _ = _; rw [hw1]; exact heap_alloc2_new w _ _
  have B1 : Hid (Below w.heap.size w w1) := by rw [hw1]; exact (below_new w _).alloc (by simp) _
  have Z1 : Hid (w1.heap.size = w.heap.size + 2) := by show _ = _; rw [hw1]; simp
  have KS : Hid (∀ W, Below w1.heap.size w1 W → W.cell? ⟨w.heap.size, 0, none⟩ = some (.int .i64 b) ∧ W.cell? ⟨w.heap.size, 1, none⟩ = some (.slice A n c)) := fun W hW => by
    have j := (hW.block w.heap.size (by have := Z1.out; omega)).trans K1.out
    exact ⟨cell_of_row W _ 0 _ _ _ j, cell_of_row W _ 1 _ _ _ j⟩
  have KR : Hid (∀ W, Below w1.heap.size w1 W → W.heap[w.heap.size + 1]? = some (.cells #[.int .i64 0, .int .i64 0, .int .i64 0, .int .i64 0, .slice none 0 0] 56 (0, 0))) := fun W hW => (hW.block (w.heap.size + 1) (by have := Z1.out; omega)).trans K2.out
  have FIN : Hid (∀ W, Below w1.heap.size w1 W → Below w.heap.size w W) := fun W hW => B1.out.trans (hW.mono (by have := Z1.out; omega))
  have H1 := Lib.hid (H.out.below B1.out (Nat.min_le_right _ _))
  have SF := Lib.hid (implSchedFault_any lo (min hi w.heap.size) A c b xs w1 HNN.out H1.out)
  rw [← HN.out] at SF
  obtain ⟨q0, q1⟩ := KS.out w1 (Below.refl _ _)
  have HW1 := Lib.hid hw1
  clear hw1
  by_cases hk : sf5 b xs = 0
  rotate_left
  · have HA : Hid (join5 b xs i t r = e5 (sf5 b xs)) := by show _ = _; unfold join5; rw [if_pos hk]
    have hk2 : (sf5 b xs != 0) = true := by simpa using hk
    go_enter Try.func30, Try.ntmps30
    go_upto_region 1 with (fail)
    rw [← HW1.out]
    clear HW1
    go_wp2_with fail
    refine SF.out.mono ?_
    rintro e w2 ⟨rfl, hb⟩
    have B2 := Lib.hid hb
    clear hb SF
    have RB := KR.out w2 B2.out
    have r0 := cell_of_row w2 _ 0 _ _ _ RB; have f0 := frozen_of_row w2 _ 0 _ _ RB
    have r1 := cell_of_row w2 _ 1 _ _ _ RB; have f1 := frozen_of_row w2 _ 1 _ _ RB
    have r2 := cell_of_row w2 _ 2 _ _ _ RB; have f2 := frozen_of_row w2 _ 2 _ _ RB
    have r3 := cell_of_row w2 _ 3 _ _ _ RB; have f3 := frozen_of_row w2 _ 3 _ _ RB
    have r4 := cell_of_row w2 _ 4 _ _ _ RB; have f4 := frozen_of_row w2 _ 4 _ _ RB
    simp at r0 r1 r2 r3 r4
    have HRB := Lib.hid RB
    clear RB
    generalize sf5 b xs = q at *
    go_wp2
    refine bodyPost_ret (results_cell_row rfl _ _ _ _ _ (0, 0) _ rfl (set5_block HRB.out _ _ _ _ _) Try.underlying56 rfl (by kernel_rfl)) rfl ?_
    rw [HA.out]
    exact sa_box HRB.out (by omega) (FIN.out _ B2.out) (e5 (q)) (OR.void _ _)
  obtain ⟨z1, z2, z3, z4⟩ := sf5_zero hk
  have HB := Lib.hid z1; have HO := Lib.hid z2; have HR := Lib.hid z3; have HM := Lib.hid z4
  have HK := Lib.hid hk
  rw [hk] at SF
  clear hk z1 z2 z3 z4
  go_enter Try.func30, Try.ntmps30
  go_upto_region 1 with (fail)
  rw [← HW1.out]
  clear HW1
  go_wp2_with fail
  refine SF.out.mono ?_
  rintro e w2 ⟨rfl, hb⟩
  have B2 := Lib.hid hb
  clear hb SF q0 q1
  obtain ⟨q0, q1⟩ := KS.out w2 B2.out
  have HA : Hid (join5 b xs i t r = if ¬ (okId i = true ∧ okT t = true ∧ 0 ≤ r ∧ r ≤ strd t) then e5 3 else if mth xs i ≠ none then e5 6 else if 10000000 < b + r then e5 8 else (0, 0, 0, bas (ins5 xs (i, t, b + r)) b, ins5 xs (i, t, b + r))) := by
    show _ = _
    unfold join5
    rw [if_neg (by rw [HK.out]; decide)]
  have IT := Lib.hid (isThread_any i)
  have AT := Lib.hid (areTickets_any t)
  rcases hi : okId i with _ | _
  · have H3 : Hid (join5 b xs i t r = e5 3) := by show _ = _; rw [HA.out, if_pos (by rw [hi]; simp)]
    rw [hi] at IT
    clear hi
    go_wp2_with fail
    refine (IT.out _).mono ?_
    rintro e9 w9 ⟨rfl, rfl⟩
    have RB := KR.out _ B2.out
    have r0 := cell_of_row w2 _ 0 _ _ _ RB; have f0 := frozen_of_row w2 _ 0 _ _ RB
    have r1 := cell_of_row w2 _ 1 _ _ _ RB; have f1 := frozen_of_row w2 _ 1 _ _ RB
    have r2 := cell_of_row w2 _ 2 _ _ _ RB; have f2 := frozen_of_row w2 _ 2 _ _ RB
    have r3 := cell_of_row w2 _ 3 _ _ _ RB; have f3 := frozen_of_row w2 _ 3 _ _ RB
    have r4 := cell_of_row w2 _ 4 _ _ _ RB; have f4 := frozen_of_row w2 _ 4 _ _ RB
    simp at r0 r1 r2 r3 r4
    have HRB := Lib.hid RB
    clear RB
    go_wp2
    refine bodyPost_ret (results_cell_row rfl _ _ _ _ _ (0, 0) _ rfl (set5_block HRB.out _ _ _ _ _) Try.underlying56 rfl (by kernel_rfl)) rfl ?_
    rw [H3.out]
    exact sa_box HRB.out (by omega) (FIN.out _ B2.out) (e5 (3)) (OR.void _ _)
  rcases ht : okT t with _ | _
  · have H3 : Hid (join5 b xs i t r = e5 3) := by show _ = _; rw [HA.out, if_pos (by rw [ht]; simp)]
    rw [hi] at IT
    rw [ht] at AT
    clear hi ht
    go_wp2_with fail
    refine (IT.out _).mono ?_
    rintro e9 w9 ⟨rfl, rfl⟩
    go_wp2_with fail
    refine (AT.out _).mono ?_
    rintro e9 w9 ⟨rfl, rfl⟩
    have RB := KR.out _ B2.out
    have r0 := cell_of_row w2 _ 0 _ _ _ RB; have f0 := frozen_of_row w2 _ 0 _ _ RB
    have r1 := cell_of_row w2 _ 1 _ _ _ RB; have f1 := frozen_of_row w2 _ 1 _ _ RB
    have r2 := cell_of_row w2 _ 2 _ _ _ RB; have f2 := frozen_of_row w2 _ 2 _ _ RB
    have r3 := cell_of_row w2 _ 3 _ _ _ RB; have f3 := frozen_of_row w2 _ 3 _ _ RB
    have r4 := cell_of_row w2 _ 4 _ _ _ RB; have f4 := frozen_of_row w2 _ 4 _ _ RB
    simp at r0 r1 r2 r3 r4
    have HRB := Lib.hid RB
    clear RB
    go_wp2
    refine bodyPost_ret (results_cell_row rfl _ _ _ _ _ (0, 0) _ rfl (set5_block HRB.out _ _ _ _ _) Try.underlying56 rfl (by kernel_rfl)) rfl ?_
    rw [H3.out]
    exact sa_box HRB.out (by omega) (FIN.out _ B2.out) (e5 (3)) (OR.void _ _)
  have ST := Lib.hid (strideOf_any t ht)
  have SI := Lib.hid (strd_in ht)
  have HI := Lib.hid hi; have HT := Lib.hid ht
  rw [hi] at IT
  rw [ht] at AT
  clear hi ht
  by_cases h0 : r < 0
  · have H3 : Hid (join5 b xs i t r = e5 3) := by show _ = _; rw [HA.out, if_pos (by omega)]
    go_wp2_with fail
    refine (IT.out _).mono ?_
    rintro e9 w9 ⟨rfl, rfl⟩
    go_wp2_with fail
    refine (AT.out _).mono ?_
    rintro e9 w9 ⟨rfl, rfl⟩
    have RB := KR.out _ B2.out
    have r0 := cell_of_row w2 _ 0 _ _ _ RB; have f0 := frozen_of_row w2 _ 0 _ _ RB
    have r1 := cell_of_row w2 _ 1 _ _ _ RB; have f1 := frozen_of_row w2 _ 1 _ _ RB
    have r2 := cell_of_row w2 _ 2 _ _ _ RB; have f2 := frozen_of_row w2 _ 2 _ _ RB
    have r3 := cell_of_row w2 _ 3 _ _ _ RB; have f3 := frozen_of_row w2 _ 3 _ _ RB
    have r4 := cell_of_row w2 _ 4 _ _ _ RB; have f4 := frozen_of_row w2 _ 4 _ _ RB
    simp at r0 r1 r2 r3 r4
    have HRB := Lib.hid RB
    clear RB
    go_wp2
    refine bodyPost_ret (results_cell_row rfl _ _ _ _ _ (0, 0) _ rfl (set5_block HRB.out _ _ _ _ _) Try.underlying56 rfl (by kernel_rfl)) rfl ?_
    rw [H3.out]
    exact sa_box HRB.out (by omega) (FIN.out _ B2.out) (e5 (3)) (OR.void _ _)
  by_cases h1 : strd t < r
  · have H3 : Hid (join5 b xs i t r = e5 3) := by show _ = _; rw [HA.out, if_pos (by omega)]
    go_wp2_with fail
    refine (IT.out _).mono ?_
    rintro e9 w9 ⟨rfl, rfl⟩
    go_wp2_with fail
    refine (AT.out _).mono ?_
    rintro e9 w9 ⟨rfl, rfl⟩
    go_wp2_with fail
    refine (ST.out _).mono ?_
    rintro e9 w9 ⟨rfl, rfl⟩
    have RB := KR.out _ B2.out
    have r0 := cell_of_row w2 _ 0 _ _ _ RB; have f0 := frozen_of_row w2 _ 0 _ _ RB
    have r1 := cell_of_row w2 _ 1 _ _ _ RB; have f1 := frozen_of_row w2 _ 1 _ _ RB
    have r2 := cell_of_row w2 _ 2 _ _ _ RB; have f2 := frozen_of_row w2 _ 2 _ _ RB
    have r3 := cell_of_row w2 _ 3 _ _ _ RB; have f3 := frozen_of_row w2 _ 3 _ _ RB
    have r4 := cell_of_row w2 _ 4 _ _ _ RB; have f4 := frozen_of_row w2 _ 4 _ _ RB
    simp at r0 r1 r2 r3 r4
    have HRB := Lib.hid RB
    clear RB
    go_wp2
    refine bodyPost_ret (results_cell_row rfl _ _ _ _ _ (0, 0) _ rfl (set5_block HRB.out _ _ _ _ _) Try.underlying56 rfl (by kernel_rfl)) rfl ?_
    rw [H3.out]
    exact sa_box HRB.out (by omega) (FIN.out _ B2.out) (e5 (3)) (OR.void _ _)
  have HC : Hid (join5 b xs i t r = if mth xs i ≠ none then e5 6 else if 10000000 < b + r then e5 8 else (0, 0, 0, bas (ins5 xs (i, t, b + r)) b, ins5 xs (i, t, b + r))) := by
    show _ = _
    rw [HA.out, if_neg (by rw [HI.out, HT.out]; simp; omega)]
  have RI := Lib.hid (show 0 ≤ r ∧ r ≤ 2520 by have := SI.out; omega)
  have IR := Lib.hid (show 0 ≤ i ∧ i < 5 by have := HI.out; unfold okId at this; simp at this; exact this)
  go_wp2_with fail
  refine (IT.out _).mono ?_
  rintro e9 w9 ⟨rfl, rfl⟩
  go_wp2_with fail
  refine (AT.out _).mono ?_
  rintro e9 w9 ⟨rfl, rfl⟩
  go_wp2_with fail
  refine (ST.out _).mono ?_
  rintro e9 w9 ⟨rfl, rfl⟩
  go_upto_region 6 with (fail)
  clear h0 h1
  have TH := Lib.hid (threadsOf_any lo (min hi w.heap.size) A c b xs HR.out w2 (H1.out.below B2.out (by have := Z1.out; omega)))
  rw [← HN.out] at TH
  go_wp2_with fail
  refine TH.out.mono ?_
  rintro e w3 ⟨rfl, hm, hb⟩
  have B3 := Lib.hid (B2.out.trans (hb.mono B2.out.size))
  obtain ⟨rr, hrr⟩ : ∃ rr, rr = w2.heap.size + 1 := ⟨_, rfl⟩
  rw [← hrr] at hm ⊢
  have M3 := Lib.hid hm
  have RRL := Lib.hid (show w1.heap.size ≤ rr by have := B2.out.size; omega)
  clear hm hb TH q0 q1 hrr
  obtain ⟨q0, q1⟩ := KS.out w3 B3.out
  cases hx : mth xs i with
  | some x =>
    obtain ⟨x0, x1, x2⟩ := x
    have H6 : Hid (join5 b xs i t r = e5 6) := by show _ = _; rw [HC.out, if_pos (by rw [hx]; simp)]
    have L := IM.look M3.out Try.underlying108 Try.underlying2 i (rv (x0, x1, x2)) (by rw [hx]; rfl) true
    simp only [rv, if_pos] at L
    have B4 := Lib.hid (B3.out.alloc B3.out.size (.cells #[.int .i64 x0, .int .i64 x1, .int .i64 x2] 52))
    clear hx
    have RB := KR.out _ B4.out
    have r0 := cell_of_row _ _ 0 _ _ _ RB; have f0 := frozen_of_row _ _ 0 _ _ RB
    have r1 := cell_of_row _ _ 1 _ _ _ RB; have f1 := frozen_of_row _ _ 1 _ _ RB
    have r2 := cell_of_row _ _ 2 _ _ _ RB; have f2 := frozen_of_row _ _ 2 _ _ RB
    have r3 := cell_of_row _ _ 3 _ _ _ RB; have f3 := frozen_of_row _ _ 3 _ _ RB
    have r4 := cell_of_row _ _ 4 _ _ _ RB; have f4 := frozen_of_row _ _ 4 _ _ RB
    simp at r0 r1 r2 r3 r4
    have HRB := Lib.hid RB
    clear RB
    go_wp2
    refine bodyPost_ret (results_cell_row rfl _ _ _ _ _ (0, 0) _ rfl (set5_block HRB.out _ _ _ _ _) Try.underlying56 rfl (by kernel_rfl)) rfl ?_
    rw [H6.out]
    exact sa_box HRB.out (by omega) (FIN.out _ B4.out) (e5 (6)) (OR.void _ _)
  | none =>
    have HD : Hid (join5 b xs i t r = if 10000000 < b + r then e5 8 else (0, 0, 0, bas (ins5 xs (i, t, b + r)) b, ins5 xs (i, t, b + r))) := by
      show _ = _
      rw [HC.out, if_neg (by rw [hx]; simp)]
    have HX := Lib.hid hx
    obtain ⟨z, hz, -⟩ : ∃ z : Int, (zeroValue 52).run Try.prog w3 = .ok (rv (z, z, z)) w3 ∧ True := ⟨0, by kernel_rfl, trivial⟩
    have L := IM.miss M3.out Try.underlying108 Try.underlying2 i (by rw [hx]; rfl) hz true
    simp only [rv, if_pos] at L
    have wr : IntKind.i64.wrap (b + r) = b + r := IntWalk.i64_in _ (by have := HB.out; have := RI.out; omega)
    clear hz hx
    obtain ⟨w4, hw4⟩ : ∃ w4, w4 = w3.alloc (.cells #[.int .i64 z, .int .i64 z, .int .i64 z] 52) := ⟨_, rfl⟩
    have N4 : Below w3.heap.size w3 w4 := by rw [hw4]; exact below_new w3 _
    have B4 := Lib.hid (B3.out.trans (N4.mono B3.out.size))
    have M4 : Hid (IM w4 rr _) := IM.below M3.out N4 (IM.lt M3.out)
    have HW4 := Lib.hid hw4
    clear hw4 N4
    by_cases hf : 10000000 < b + r
    · have H8 : Hid (join5 b xs i t r = e5 8) := by show _ = _; rw [HD.out, if_pos hf]
      clear q0 q1
      go_upto_region 8 with (fail)
      rw [← HW4.out]
      clear HW4
      obtain ⟨q0, q1⟩ := KS.out w4 B4.out
      have RB := KR.out _ B4.out
      have r0 := cell_of_row w4 _ 0 _ _ _ RB; have f0 := frozen_of_row w4 _ 0 _ _ RB
      have r1 := cell_of_row w4 _ 1 _ _ _ RB; have f1 := frozen_of_row w4 _ 1 _ _ RB
      have r2 := cell_of_row w4 _ 2 _ _ _ RB; have f2 := frozen_of_row w4 _ 2 _ _ RB
      have r3 := cell_of_row w4 _ 3 _ _ _ RB; have f3 := frozen_of_row w4 _ 3 _ _ RB
      have r4 := cell_of_row w4 _ 4 _ _ _ RB; have f4 := frozen_of_row w4 _ 4 _ _ RB
      simp at r0 r1 r2 r3 r4
      have HRB := Lib.hid RB
      clear RB
      go_wp2
      refine bodyPost_ret (results_cell_row rfl _ _ _ _ _ (0, 0) _ rfl (set5_block HRB.out _ _ _ _ _) Try.underlying56 rfl (by kernel_rfl)) rfl ?_
      rw [H8.out]
      exact sa_box HRB.out (by omega) (FIN.out _ B4.out) (e5 (8)) (OR.void _ _)
    · have H0 : Hid (join5 b xs i t r = (0, 0, 0, bas (ins5 xs (i, t, b + r)) b, ins5 xs (i, t, b + r))) := by show _ = _; rw [HD.out, if_neg hf]
      clear q0 q1
      go_upto_region 8 with (fail)
      rw [← HW4.out]
      clear HW4
      obtain ⟨q0, q1⟩ := KS.out w4 B4.out
      obtain ⟨w5, hrun, im, kp, sz⟩ := IM.put (P := Try.prog) M4.out Try.underlying108 Try.underlying2 i (rv (i, t, b + r))
      unfold rv at hrun
      have M5 : Hid (RM w5 rr (mth (ins5 xs (i, t, b + r)))) := IM.ext im fun j => by
        rw [mth_ins xs (i, t, b + r) HX.out]
        by_cases e : j = i
        · rw [if_pos e, if_pos e]; rfl
        · rw [if_neg e, if_neg e]
      have B5 := Lib.hid (B4.out.trans (kp.below (B := w1.heap.size) B4.out.size (by simpa using RRL.out)))
      have SC := Lib.hid (sched_any rr (mth (ins5 xs (i, t, b + r))) b w5 M5.out)
      rw [(HR.out.ins (x := (i, t, b + r)) IR.out HX.out).all] at SC
      generalize ins5 xs (i, t, b + r) = ys at *
      generalize bas ys b = nb at *
      obtain ⟨s0, s1⟩ := KS.out w5 B5.out
      clear im kp sz
      go_wp2_with fail
      refine SC.out.mono ?_
      rintro e w6 ⟨A', c', rfl, ho, hb⟩
      have O6 := Lib.hid (OR.mono (base' := w.heap.size) ho (by have := B5.out.size; have := Z1.out; omega))
      have B6 := Lib.hid (B5.out.trans (hb.mono B5.out.size))
      clear ho hb SC q0 q1 s0 s1
      have RB := KR.out _ B6.out
      have r0 := cell_of_row w6 _ 0 _ _ _ RB; have f0 := frozen_of_row w6 _ 0 _ _ RB
      have r1 := cell_of_row w6 _ 1 _ _ _ RB; have f1 := frozen_of_row w6 _ 1 _ _ RB
      have r2 := cell_of_row w6 _ 2 _ _ _ RB; have f2 := frozen_of_row w6 _ 2 _ _ RB
      have r3 := cell_of_row w6 _ 3 _ _ _ RB; have f3 := frozen_of_row w6 _ 3 _ _ RB
      have r4 := cell_of_row w6 _ 4 _ _ _ RB; have f4 := frozen_of_row w6 _ 4 _ _ RB
      simp at r0 r1 r2 r3 r4
      have HRB := Lib.hid RB
      clear RB
      go_wp2
      refine bodyPost_ret (results_cell_row rfl _ _ _ _ _ (0, 0) _ rfl (set5_block HRB.out _ _ _ _ _) Try.underlying56 rfl (by kernel_rfl)) rfl ?_
      rw [H0.out]
      exact sa_box HRB.out (by omega) (FIN.out _ B6.out) ((0, 0, 0, nb, ys)) (O6.out)

end Go.Proofs.Ytckapndpefkcgaa
