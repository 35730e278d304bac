/-
  The program's PickSched. No conditions beyond that the list can be read.
-/
import Derived.BigRegion
import Derived.Deep.RegionHeld3
import Derived.Test.YtckapndpefkcgaaTk
import Derived.Test.YtckapndpefkcgaaAns5
set_option maxHeartbeats 1000000
namespace Go.Proofs.Ytckapndpefkcgaa
open List renaming getElem_toArray → zz1, getElem_cons_succ → zz2, getElem_cons_zero → zz3, setIfInBounds_toArray → zz4, set_cons_zero → zz5, set_cons_succ → zz6
open Go.RowKit
set_option maxRecDepth 100000

set_option maxHeartbeats 8000000 in
theorem implPickSched_any (lo hi : Nat) (A : Option Addr) (c : Nat) (b : Int) (xs : List R3) (w : World) (hn : xs.length ≤ 9223372036854775807) (h : RS w lo hi A xs) :
    Calls Try.prog 45 #[.agg #[.int .i64 b, .slice A xs.length c]] w (SA (pick5 b xs) w) := by
  have H := Lib.hid h.lt
  obtain ⟨n, hn'⟩ : ∃ n, n = xs.length := ⟨_, rfl⟩
  have HN := Lib.hid hn'
  have HNN := Lib.hid hn
  rw [← hn']
  clear h hn' hn
  obtain ⟨w1, hw1⟩ : ∃ w1, w1 = (w.alloc (.cells #[.int .i64 b, .slice A n c] 43)).alloc (.cells #[.int .i64 0, .int .i64 0, .int .i64 0, .int .i64 0, .slice none 0 0] 56) := ⟨_, rfl⟩
  have K1 : Hid (w1.heap[w.heap.size]? = some (.cells #[.int .i64 b, .slice A n c] 43 (0, 0))) := by show _ = _; rw [hw1]; exact heap_alloc2_old w _ _
  have K2 : Hid (w1.heap[w.heap.size + 1]? = some (.cells #[.int .i64 0, .int .i64 0, .int .i64 0, .int .i64 0, .slice none 0 0] 56 (0, 0))) := by show _ = _; rw [hw1]; exact heap_alloc2_new w _ _
  have B1 : Hid (Below w.heap.size w w1) := by rw [hw1]; exact (below_new w _).alloc (by simp) _
  have Z1 : Hid (w1.heap.size = w.heap.size + 2) := by show _ = _; rw [hw1]; simp
  have KS : Hid (∀ W, Below w1.heap.size w1 W → W.cell? ⟨w.heap.size, 0, none⟩ = some (.int .i64 b) ∧ W.cell? ⟨w.heap.size, 1, none⟩ = some (.slice A n c)) := fun W hW => by
    have j := (hW.block w.heap.size (by have := Z1.out; omega)).trans K1.out
    exact ⟨cell_of_row W _ 0 _ _ _ j, cell_of_row W _ 1 _ _ _ j⟩
  have KR : Hid (∀ W, Below w1.heap.size w1 W → W.heap[w.heap.size + 1]? = some (.cells #[.int .i64 0, .int .i64 0, .int .i64 0, .int .i64 0, .slice none 0 0] 56 (0, 0))) := fun W hW => (hW.block (w.heap.size + 1) (by have := Z1.out; omega)).trans K2.out
  have FIN : Hid (∀ W, Below w1.heap.size w1 W → Below w.heap.size w W) := fun W hW => B1.out.trans (hW.mono (by have := Z1.out; omega))
  have H1 := Lib.hid (H.out.below B1.out (Nat.min_le_right _ _))
  have SF := Lib.hid (implSchedFault_any lo (min hi w.heap.size) A c b xs w1 HNN.out H1.out)
  rw [← HN.out] at SF
  obtain ⟨q0, q1⟩ := KS.out w1 (Below.refl _ _)
  have HW1 := Lib.hid hw1
  clear hw1
  by_cases hk : sf5 b xs = 0
  rotate_left
  · have HA : Hid (pick5 b xs = e5 (sf5 b xs)) := by show _ = _; unfold pick5; rw [if_pos hk]
    have hk2 : (sf5 b xs != 0) = true := by simpa using hk
    go_enter Try.func45, Try.ntmps45
    go_upto_region 1 with (fail)
    rw [← HW1.out]
    clear HW1
    go_wp2_with fail
    refine SF.out.mono ?_
    rintro e w2 ⟨rfl, hb⟩
    have B2 := Lib.hid hb
    clear hb SF
    have RB := KR.out w2 B2.out
    have r0 := cell_of_row w2 _ 0 _ _ _ RB; have f0 := frozen_of_row w2 _ 0 _ _ RB
    have r1 := cell_of_row w2 _ 1 _ _ _ RB; have f1 := frozen_of_row w2 _ 1 _ _ RB
    have r2 := cell_of_row w2 _ 2 _ _ _ RB; have f2 := frozen_of_row w2 _ 2 _ _ RB
    have r3 := cell_of_row w2 _ 3 _ _ _ RB; have f3 := frozen_of_row w2 _ 3 _ _ RB
    have r4 := cell_of_row w2 _ 4 _ _ _ RB; have f4 := frozen_of_row w2 _ 4 _ _ RB
    simp at r0 r1 r2 r3 r4
    have HRB := Lib.hid RB
    clear RB
    generalize sf5 b xs = q at *
    go_wp2
    refine bodyPost_ret (results_cell_row rfl _ _ _ _ _ (0, 0) _ rfl (set5_block HRB.out _ _ _ _ _) Try.underlying56 rfl (by kernel_rfl)) rfl ?_
    rw [HA.out]
    exact sa_box HRB.out (by omega) (FIN.out _ B2.out) (e5 (q)) (OR.void _ _)
  obtain ⟨z1, z2, z3, z4⟩ := sf5_zero hk
  have HB := Lib.hid z1; have HO := Lib.hid z2; have HR := Lib.hid z3; have HM := Lib.hid z4
  have HK := Lib.hid hk
  rw [hk] at SF
  clear hk z1 z2 z3 z4
  go_enter Try.func45, Try.ntmps45
  go_upto_region 1 with (fail)
  rw [← HW1.out]
  clear HW1
  go_wp2_with fail
  refine SF.out.mono ?_
  rintro e w2 ⟨rfl, hb⟩
  have B2 := Lib.hid hb
  clear hb SF q0 q1
  obtain ⟨q0, q1⟩ := KS.out w2 B2.out
  have TH := Lib.hid (threadsOf_any lo (min hi w.heap.size) A c b xs HR.out w2 (H1.out.below B2.out (by have := Z1.out; omega)))
  rw [← HN.out] at TH
  go_wp2_with fail
  refine TH.out.mono ?_
  rintro e w3 ⟨rfl, hm, hb⟩
  have B3 := Lib.hid (B2.out.trans (hb.mono B2.out.size))
  obtain ⟨rr, hrr⟩ : ∃ rr, rr = w2.heap.size + 1 := ⟨_, rfl⟩
  rw [← hrr] at hm ⊢
  have M3 := Lib.hid hm
  have RRL := Lib.hid (show w1.heap.size ≤ rr by have := B2.out.size; omega)
  clear hm hb TH q0 q1 hrr
  obtain ⟨q0, q1⟩ := KS.out w3 B3.out
  have FI := Lib.hid (first_any rr (mth xs) w3 M3.out)
  rw [HR.out.all] at FI
  have LT := Lib.hid (show xs ≠ [] → (lst xs).2 = true from lst_true)
  have LM := Lib.hid (show xs ≠ [] → (lst xs).1 ∈ xs from lst_mem)
  have HA : Hid (pick5 b xs = if xs = [] then e5 4 else if 10000000 < b + 2520 then e5 8 else (0, (lst xs).1.1, 0, bas (pk5 xs (nxt5 (lst xs).1)) b, pk5 xs (nxt5 (lst xs).1))) := by
    show _ = _
    unfold pick5
    rw [if_neg (by rw [HK.out]; decide)]
  have L0 : Hid (xs = [] → lst xs = ((0, 0, 0), false)) := fun h => by rw [h]; rfl
  obtain ⟨L, hL⟩ : ∃ L, L = lst xs := ⟨_, rfl⟩
  rw [← hL] at FI LT LM HA L0
  clear hL
  obtain ⟨⟨x0, x1, x2⟩, bb⟩ := L
  go_wp2_with fail
  refine FI.out.mono ?_
  rintro e w4 ⟨rfl, hb⟩
  unfold rv
  have B4 := Lib.hid (B3.out.trans (hb.mono B3.out.size))
  have M4 := Lib.hid (IM.below M3.out hb (IM.lt M3.out))
  obtain ⟨w5, hw5⟩ : ∃ w5, w5 = w4.alloc (.cells #[.int .i64 x0, .int .i64 x1, .int .i64 x2] 52) := ⟨_, rfl⟩
  have X5 : Hid (w5.heap[w4.heap.size]? = some (.cells #[.int .i64 x0, .int .i64 x1, .int .i64 x2] 52 (0, 0))) := by show _ = _; rw [hw5]; exact heap_alloc_new w4 _
  have N5 : Below w4.heap.size w4 w5 := by rw [hw5]; exact below_new w4 _
  have Z5 : Hid (w5.heap.size = w4.heap.size + 1) := by show _ = _; rw [hw5]; simp
  have B5 := Lib.hid (B4.out.trans (N5.mono B4.out.size))
  have M5 : Hid (IM w5 rr _) := IM.below M4.out N5 (IM.lt M4.out)
  have HW5 := Lib.hid hw5
  have RL4 := Lib.hid (IM.lt M4.out)
  clear hb FI hw5 N5 q0 q1 M4
  obtain ⟨q0, q1⟩ := KS.out w5 B5.out
  by_cases he : xs = []
  · have hbb := L0.out he
    have HB8 : Hid (pick5 b xs = e5 4) := by show _ = _; rw [HA.out, if_pos he]
    obtain rfl : false = bb := by injection hbb with _ hbb; exact hbb.symm
    clear he hbb
    go_upto_region 6 with (fail)
    rw [← HW5.out]
    have RB := KR.out _ B5.out
    have r0 := cell_of_row w5 _ 0 _ _ _ RB; have f0 := frozen_of_row w5 _ 0 _ _ RB
    have r1 := cell_of_row w5 _ 1 _ _ _ RB; have f1 := frozen_of_row w5 _ 1 _ _ RB
    have r2 := cell_of_row w5 _ 2 _ _ _ RB; have f2 := frozen_of_row w5 _ 2 _ _ RB
    have r3 := cell_of_row w5 _ 3 _ _ _ RB; have f3 := frozen_of_row w5 _ 3 _ _ RB
    have r4 := cell_of_row w5 _ 4 _ _ _ RB; have f4 := frozen_of_row w5 _ 4 _ _ RB
    simp at r0 r1 r2 r3 r4
    have HRB := Lib.hid RB
    clear RB
    go_wp2
    refine bodyPost_ret (results_cell_row rfl _ _ _ _ _ (0, 0) _ rfl (set5_block HRB.out _ _ _ _ _) Try.underlying56 rfl (by kernel_rfl)) rfl ?_
    rw [HB8.out]
    exact sa_box HRB.out (by omega) (FIN.out _ B5.out) (e5 (4)) (OR.void _ _)
  have hbb := LT.out he
  obtain rfl : true = bb := hbb.symm
  have hxm := LM.out he
  have hxo := okR_mem HO.out hxm
  have hxf := mth_of_mem HR.out hxm
  by_cases hf : 10000000 < b + 2520
  · have HB8 : Hid (pick5 b xs = e5 8) := by show _ = _; rw [HA.out, if_neg he, if_pos hf]
    have wr : IntKind.i64.wrap (b + 2520) = b + 2520 := IntWalk.i64_in _ (by have := HB.out; omega)
    clear he hbb hxm hxo hxf
    go_upto_region 6 with (fail)
    rw [← HW5.out]
    have RB := KR.out _ B5.out
    have r0 := cell_of_row w5 _ 0 _ _ _ RB; have f0 := frozen_of_row w5 _ 0 _ _ RB
    have r1 := cell_of_row w5 _ 1 _ _ _ RB; have f1 := frozen_of_row w5 _ 1 _ _ RB
    have r2 := cell_of_row w5 _ 2 _ _ _ RB; have f2 := frozen_of_row w5 _ 2 _ _ RB
    have r3 := cell_of_row w5 _ 3 _ _ _ RB; have f3 := frozen_of_row w5 _ 3 _ _ RB
    have r4 := cell_of_row w5 _ 4 _ _ _ RB; have f4 := frozen_of_row w5 _ 4 _ _ RB
    simp at r0 r1 r2 r3 r4
    have HRB := Lib.hid RB
    clear RB
    go_wp2
    refine bodyPost_ret (results_cell_row rfl _ _ _ _ _ (0, 0) _ rfl (set5_block HRB.out _ _ _ _ _) Try.underlying56 rfl (by kernel_rfl)) rfl ?_
    rw [HB8.out]
    exact sa_box HRB.out (by omega) (FIN.out _ B5.out) (e5 (8)) (OR.void _ _)
  have HC : Hid (pick5 b xs = (0, x0, 0, bas (pk5 xs (x0, x1, x2 + strd x1)) b, pk5 xs (x0, x1, x2 + strd x1))) := by show _ = _; rw [HA.out, if_neg he, if_neg hf]; rfl
  have ht : okT x1 = true := by unfold okR at hxo; simp at hxo; exact hxo.1.2
  have hi : b ≤ x2 ∧ x2 ≤ b + strd x1 := by unfold okR at hxo; simp at hxo; exact hxo.2
  have SI := strd_in ht
  have wr : IntKind.i64.wrap (b + 2520) = b + 2520 := IntWalk.i64_in _ (by have := HB.out; omega)
  have wr2 : IntKind.i64.wrap (x2 + strd x1) = x2 + strd x1 := IntWalk.i64_in _ (by have := HB.out; omega)
  have ST := Lib.hid (strideOf_any x1 ht)
  have MF := Lib.hid (show mth xs x0 ≠ none by rw [hxf]; simp)
  have HF := Lib.hid hf
  clear he hbb hxm hxo hxf ht hi SI
  have o0 := cell_of_row w5 _ 0 _ _ _ X5.out; have o1 := cell_of_row w5 _ 1 _ _ _ X5.out; have o2 := cell_of_row w5 _ 2 _ _ _ X5.out; have g2 := frozen_of_row w5 _ 2 _ _ X5.out
  simp at o0 o1 o2
  go_upto_region 6 with (fail)
  rw [← HW5.out]
  clear HW5
  go_upto_region 10 with (fail)
  go_region_with (refine (ST.out _).mono ?_; rintro e9 w9 ⟨rfl, rfl⟩)
  all_goals
    obtain ⟨w8, hw8⟩ : ∃ w8, w8 = (w5.setCell ⟨w4.heap.size, 2, none⟩ (.int .i64 (x2 + strd x1))).drew := ⟨_, rfl⟩
    rw [← hw8]
    have X8 : w8.heap[w4.heap.size]? = some (.cells #[.int .i64 x0, .int .i64 x1, .int .i64 (x2 + strd x1)] 52 (0, 0)) := by rw [hw8]; exact heap_setCell_same w5 _ 2 _ _ _ X5.out
    have K8 : Kept [w4.heap.size] w5 w8 := by
      have k := (Kept.refl [w4.heap.size] w5).setCell (p := ⟨w4.heap.size, 2, none⟩) (by simp) (.int .i64 (x2 + strd x1))
      rw [hw8]; exact ⟨k.1.drew, k.2⟩
    have S8 : w8.heap.size = w5.heap.size := by rw [hw8]; simp
    have M8 : IM w8 rr _ := IM.kept M5.out K8 (by simp; have := RL4.out; omega)
    have B8 : Below w1.heap.size w1 w8 := B5.out.trans (K8.below B5.out.size (by simp; exact B4.out.size))
    obtain ⟨w9, hrun, im, kp, sz⟩ := IM.put (P := Try.prog) M8 Try.underlying108 Try.underlying2 x0 (rv (x0, x1, x2 + strd x1))
    unfold rv at hrun
    have M9 : Hid (RM w9 rr (mth (pk5 xs (x0, x1, x2 + strd x1)))) := IM.ext im fun j => by
      rw [mth_pk xs (x0, x1, x2 + strd x1) MF.out]
      by_cases e : j = x0
      · rw [if_pos e, if_pos e]; rfl
      · rw [if_neg e, if_neg e]
    have B9 := Lib.hid (B8.trans (kp.below (B := w1.heap.size) B8.size (by simpa using RRL.out)))
    have X9 := Lib.hid ((kp.2 w4.heap.size (by have := Z5.out; omega) (by simp; have := RL4.out; omega)).trans X8)
    have Z9 := Lib.hid (show w9.heap.size = w4.heap.size + 1 by have := Z5.out; omega)
    have p0 := cell_of_row w8 _ 0 _ _ _ X8; have p1 := cell_of_row w8 _ 1 _ _ _ X8; have p2 := cell_of_row w8 _ 2 _ _ _ X8
    simp at p0 p1 p2
    have SC : Hid (∀ W, Below w9.heap.size w9 W → Calls Try.prog 86 #[.map (some rr), .int .i64 b] W fun e w' => ∃ A c, e = .returned (.agg #[.int .i64 (bas (pk5 xs (x0, x1, x2 + strd x1)) b), .slice A (pk5 xs (x0, x1, x2 + strd x1)).length c]) ∧ OR 52 3 w' W.heap.size A (pk5 xs (x0, x1, x2 + strd x1)).length c (fl (pk5 xs (x0, x1, x2 + strd x1))) ∧ Below W.heap.size W w') := fun W hW => by
      have := sched_any rr (mth (pk5 xs (x0, x1, x2 + strd x1))) b W (IM.below M9.out hW (IM.lt M9.out))
      rw [(HR.out.pk _).all] at this
      exact this
    have QS : Hid (∀ W, Below w9.heap.size w9 W → W.cell? ⟨w4.heap.size, 0, none⟩ = some (.int .i64 x0) ∧ W.cell? ⟨w.heap.size, 0, none⟩ = some (.int .i64 b)) := fun W hW => by
      have j := (hW.block w4.heap.size (by have := Z9.out; omega)).trans X9.out
      exact ⟨cell_of_row W _ 0 _ _ _ j, (KS.out W (B9.out.trans (hW.mono B9.out.size))).1⟩
    have NE := Lib.hid (show w.heap.size + 1 < w4.heap.size by have := B4.out.size; have := Z1.out; omega)
    generalize pk5 xs (x0, x1, x2 + strd x1) = ys at *
    generalize bas ys b = nb at *
    clear hw8 X8 K8 S8 M8 B8 im kp sz q0 q1 o0 o1 o2 g2 wr wr2
    go_upto_region 12 with (fail)
    refine wp_region_held_drew (S := fun W => W.cell? ⟨w4.heap.size, 0, none⟩ = some (.int .i64 x0) ∧ W.cell? ⟨w.heap.size, 0, none⟩ = some (.int .i64 b)) (by kernel_rfl) (QS.out _ (Below.drew (Below.refl _ _))) (fun hHeld => ?_)
    obtain ⟨v0, hv0⟩ : ∃ v0, v0 = w9.drew := ⟨_, rfl⟩
    have BL0 : Hid (Below w9.heap.size w9 v0) := by rw [hv0]; exact Below.drew (Below.refl _ _)
    rw [← hv0] at hHeld ⊢
    clear hv0
    refine tkH 0 ?_ rfl ?_ hHeld ?_; rotate_left; (intro w hSw; (try dsimp only at hSw); go_simp; try with_reducible rfl); try simp only [Act.put, zz1, zz2, zz3, zz4, zz5, zz6]
    refine tkH 1 ?_ rfl ?_ hHeld ?_; rotate_left; (intro w hSw; (try dsimp only at hSw); go_simp; try with_reducible rfl); try simp only [Act.put, zz1, zz2, zz3, zz4, zz5, zz6]
    refine tkH 2 ?_ rfl ?_ hHeld ?_; rotate_left; (intro w hSw; (try dsimp only at hSw); go_simp; try with_reducible rfl); try simp only [Act.put, zz1, zz2, zz3, zz4, zz5, zz6]
    refine tkH 3 ?_ rfl ?_ hHeld ?_; rotate_left; (intro w hSw; (try dsimp only at hSw); go_simp; try with_reducible rfl); try simp only [Act.put, zz1, zz2, zz3, zz4, zz5, zz6]
    refine tkH 4 ?_ rfl ?_ hHeld ?_; rotate_left; (intro w hSw; (try dsimp only at hSw); go_simp; try with_reducible rfl); try simp only [Act.put, zz1, zz2, zz3, zz4, zz5, zz6]
    refine wpAnyH_ready (rs := [5]) (by kernel_rfl) (by simp) ?_
    refine AllReadyH.cons (o := _) rfl (fun K0 hK0 => ?_) AllReadyH.nil
    go_simp
    refine (SC.out _ BL0.out).mono ?_
    rintro e9 v1 ⟨A', c', rfl, ho, hb⟩
    go_wp2_with fail
    have BL1 := Lib.hid (BL0.out.trans (hb.mono BL0.out.size))
    have OW := Lib.hid ho
    have V0 := Lib.hid (show w9.heap.size ≤ v0.heap.size from BL0.out.size)
    have KV := Lib.hid (KR.out v1 (B9.out.trans (BL1.out.mono B9.out.size)))
    clear ho hb
    refine hK0.out _ _ (QS.out _ BL1.out) (fun hHeld => ?_)
    clear hK0 K0
    try simp only [Act.put, zz1, zz2, zz3, zz4, zz5, zz6]
    refine tkH 6 ?_ rfl ?_ hHeld ?_; rotate_left; (intro w hSw; (try dsimp only at hSw); go_simp; try with_reducible rfl); try simp only [Act.put, zz1, zz2, zz3, zz4, zz5, zz6]
    refine wpAnyH_ready (rs := [7]) (by kernel_rfl) (by simp) ?_
    refine AllReadyH.cons (o := _) rfl (fun K0 hK0 => ?_) AllReadyH.nil
    clear hHeld
    rw [if_pos (by rfl)]
    refine wp_store_row 56 _ _ rfl (w.heap.size + 1) _ rfl rfl 56 _ KV.out (by kernel_rfl) rfl (by simp [Value.oneCell']) ?_
    refine hK0.out _ _ (⟨(cell_setRow_other _ _ _ _ (by have := NE.out; simp; omega)).trans (QS.out _ BL1.out).1, (cell_setRow_other _ _ _ _ (by simp)).trans (QS.out _ BL1.out).2⟩) (fun hHeld => ?_)
    clear hK0 K0
    try simp only [Act.put, zz1, zz2, zz3, zz4, zz5, zz6]
    refine wpAnyH_done (by kernel_rfl) ?_ _
    have O1 := Lib.hid (OR.mono (base' := w.heap.size) OW.out (by have := V0.out; have := Z9.out; have := NE.out; omega))
    have BF := Lib.hid (FIN.out _ (B9.out.trans (BL1.out.mono B9.out.size)))
    go_wp2
    refine bodyPost_ret (results_cell_row rfl _ _ _ _ _ (0, 0) _ rfl (setRow_heap _ _ _ _ _ _ KV.out) Try.underlying56 rfl (by kernel_rfl)) rfl ?_
    rw [HC.out]
    exact sa_row KV.out (by omega) BF.out (0, x0, 0, nb, ys) O1.out

end Go.Proofs.Ytckapndpefkcgaa
