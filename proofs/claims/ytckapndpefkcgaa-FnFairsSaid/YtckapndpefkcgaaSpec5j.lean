/-
  The model's PicksOf. No conditions beyond that the list can be read.
-/
import Derived.Test.YtckapndpefkcgaaAnsP5
import Derived.Test.YtckapndpefkcgaaSpec5i
set_option maxHeartbeats 1000000
namespace Go.Proofs.Ytckapndpefkcgaa
open Go.RowKit
set_option maxRecDepth 100000

set_option maxHeartbeats 8000000 in
theorem specPicksOf_any (lo hi : Nat) (AA : Option Addr) (c : Nat) (b : Int) (xs : List R3) (t : Int) (w : World) (hn : xs.length ≤ 9223372036854775807) (h : RS w lo hi AA xs) :
    Calls Try.prog 27 #[.agg #[.int .i64 b, .slice AA xs.length c], .int .i64 t] w (PA (picks5 b xs t) w) := by
  have H := Lib.hid h.lt
  obtain ⟨n, hn'⟩ : ∃ n, n = xs.length := ⟨_, rfl⟩
  have HN := Lib.hid hn'
  have HNN := Lib.hid hn
  rw [← hn']
  clear h hn' hn
  obtain ⟨w1, hw1⟩ : ∃ w1, w1 = (w.alloc (.cells #[.int .i64 b, .slice AA n c] 43)).alloc (.cells #[.int .i64 0, .slice none 0 0, .int .i64 0, .slice none 0 0] 48) := ⟨_, rfl⟩
  have K1 : Hid (w1.heap[w.heap.size]? = some (.cells #[.int .i64 b, .slice AA n c] 43 (0, 0))) := by show _ = _; rw [hw1]; exact heap_alloc2_old w _ _
  have K2 : Hid (w1.heap[w.heap.size + 1]? = some (.cells #[.int .i64 0, .slice none 0 0, .int .i64 0, .slice none 0 0] 48 (0, 0))) := by show _ = _; rw [hw1]; exact heap_alloc2_new w _ _
  have B1 : Hid (Below w.heap.size w w1) := by rw [hw1]; exact (below_new w _).alloc (by simp) _
  have Z1 : Hid (w1.heap.size = w.heap.size + 2) := by show _ = _; rw [hw1]; simp
  have KB : Hid (∀ W, Below w1.heap.size w1 W → W.heap[w.heap.size]? = some (.cells #[.int .i64 b, .slice AA n c] 43 (0, 0))) := fun W hW => (hW.block w.heap.size (by have := Z1.out; omega)).trans K1.out
  have KS : Hid (∀ W, Below w1.heap.size w1 W → W.cell? ⟨w.heap.size, 0, none⟩ = some (.int .i64 b) ∧ W.cell? ⟨w.heap.size, 1, none⟩ = some (.slice AA n c)) := fun W hW => by
    have j := KB.out W hW
    exact ⟨cell_of_row W _ 0 _ _ _ j, cell_of_row W _ 1 _ _ _ j⟩
  have KR : Hid (∀ W, Below w1.heap.size w1 W → W.heap[w.heap.size + 1]? = some (.cells #[.int .i64 0, .slice none 0 0, .int .i64 0, .slice none 0 0] 48 (0, 0))) := fun W hW => (hW.block (w.heap.size + 1) (by have := Z1.out; omega)).trans K2.out
  have FIN : Hid (∀ W, Below w1.heap.size w1 W → Below w.heap.size w W) := fun W hW => B1.out.trans (hW.mono (by have := Z1.out; omega))
  have H1 := Lib.hid (H.out.below B1.out (Nat.min_le_right _ _))
  have SF := Lib.hid (specSchedFault_any lo (min hi w.heap.size) AA c b xs w1 HNN.out H1.out)
  rw [← HN.out] at SF
  obtain ⟨q0, q1⟩ := KS.out w1 (Below.refl _ _)
  have HW1 := Lib.hid hw1
  clear hw1
  go_enter Try.func27, Try.ntmps27
  go_upto_region 1 with (fail)
  rw [← HW1.out]
  clear HW1
  go_wp2_with fail
  refine SF.out.mono ?_
  rintro e w2 ⟨rfl, hb⟩
  have B2 := Lib.hid hb
  clear hb SF q0 q1
  by_cases hk : sf5 b xs = 0
  rotate_left
  · have HA : Hid (picks5 b xs t = ep5 (sf5 b xs)) := by show _ = _; unfold picks5; rw [if_pos hk]
    have hk2 : (sf5 b xs != 0) = true := by simpa using hk
    generalize sf5 b xs = q at *
    have RB := KR.out w2 B2.out
    have r0 := cell_of_row w2 _ 0 _ _ _ RB; have f0 := frozen_of_row w2 _ 0 _ _ RB; have r1 := cell_of_row w2 _ 1 _ _ _ RB; have f1 := frozen_of_row w2 _ 1 _ _ RB; have r2 := cell_of_row w2 _ 2 _ _ _ RB; have f2 := frozen_of_row w2 _ 2 _ _ RB; have r3 := cell_of_row w2 _ 3 _ _ _ RB; have f3 := frozen_of_row w2 _ 3 _ _ RB
    simp at r0 r1 r2 r3
    have HRB := Lib.hid RB
    clear RB
    go_wp2
    refine bodyPost_ret (results_cell_row rfl _ _ _ _ _ (0, 0) _ rfl (set4_block HRB.out _ _ _ _) Try.underlying48 rfl (by kernel_rfl)) rfl ?_
    rw [HA.out]
    exact pa_box HRB.out (by omega) (FIN.out _ B2.out) (ep5 q) (OR.void _ _) (OR.void _ _)
  obtain ⟨z1, z2, z3, z4⟩ := sf5_zero hk
  have HB := Lib.hid z1; have HO := Lib.hid z2; have HR := Lib.hid z3
  have HK := Lib.hid hk
  rw [hk]
  clear hk z1 z2 z3 z4
  have LI := Lib.hid (l1In_any t 0 200 w2)
  by_cases ht : 0 ≤ t ∧ t ≤ 200
  rotate_left
  · have HA : Hid (picks5 b xs t = ep5 3) := by show _ = _; unfold picks5; rw [if_neg (by rw [HK.out]; decide), if_pos (by omega)]
    have hz : inR 0 200 t = false := by
      cases hh : inR 0 200 t with
      | false => rfl
      | true => unfold inR at hh; simp at hh; omega
    rw [hz] at LI
    go_wp2_with fail
    refine LI.out.mono ?_
    rintro e9 w9 ⟨rfl, rfl⟩
    have RB := KR.out w2 B2.out
    have r0 := cell_of_row w2 _ 0 _ _ _ RB; have f0 := frozen_of_row w2 _ 0 _ _ RB; have r1 := cell_of_row w2 _ 1 _ _ _ RB; have f1 := frozen_of_row w2 _ 1 _ _ RB; have r2 := cell_of_row w2 _ 2 _ _ _ RB; have f2 := frozen_of_row w2 _ 2 _ _ RB; have r3 := cell_of_row w2 _ 3 _ _ _ RB; have f3 := frozen_of_row w2 _ 3 _ _ RB
    simp at r0 r1 r2 r3
    have HRB := Lib.hid RB
    clear RB
    go_wp2
    refine bodyPost_ret (results_cell_row rfl _ _ _ _ _ (0, 0) _ rfl (set4_block HRB.out _ _ _ _) Try.underlying48 rfl (by kernel_rfl)) rfl ?_
    rw [HA.out]
    exact pa_box HRB.out (by omega) (FIN.out _ B2.out) (ep5 3) (OR.void _ _) (OR.void _ _)
  have hz : inR 0 200 t = true := by unfold inR; simp; omega
  rw [hz] at LI
  obtain ⟨m, rfl⟩ : ∃ m : Nat, t = m := ⟨t.toNat, by omega⟩
  have HT := Lib.hid (show m ≤ 200 by omega)
  have HA : Hid (picks5 b xs m = pks5 m [] b xs) := by show _ = _; unfold picks5; rw [if_neg (by rw [HK.out]; decide), if_neg (by omega)]; rfl
  clear ht hz
  go_wp2_with fail
  refine LI.out.mono ?_
  rintro e9 w9 ⟨rfl, rfl⟩
  have CP : Hid (Calls Try.prog 74 #[.pointer (some ⟨w.heap.size, 0, none⟩)] w2 fun e w' => ∃ A' c', e = .returned (.agg #[.int .i64 b, .slice A' n c']) ∧ OR 52 3 w' w1.heap.size A' n c' (fl xs) ∧ Below w1.heap.size w1 w') := by
    have l := HN.out
    have k := KB.out w2 B2.out
    rw [l] at k ⊢
    exact (l5CopyA_any lo (min hi w.heap.size) AA c w.heap.size b xs w2 HR.out.len (H1.out.below B2.out (by have := Z1.out; omega)) k).mono fun e w' ⟨A', c', h1, h2, h3⟩ => ⟨A', c', h1, OR.mono h2 B2.out.size, B2.out.trans (h3.mono B2.out.size)⟩
  go_wp2_with fail
  refine CP.out.mono ?_
  rintro e9 w4 ⟨A0, c0, rfl, ho, hb⟩
  have O4 := Lib.hid ho
  have B4 := Lib.hid hb
  clear ho hb CP LI
  obtain ⟨w5, hw5⟩ : ∃ w5, w5 = w4.alloc (.cells #[.int .i64 0, .slice none 0 0, .int .i64 b, .slice A0 n c0] 48) := ⟨_, rfl⟩
  obtain ⟨O, hO⟩ : ∃ g, g = w4.heap.size := ⟨_, rfl⟩
  have K5 : Hid (w5.heap[O]? = some (.cells #[.int .i64 0, .slice none 0 0, .int .i64 b, .slice A0 n c0] 48 (0, 0))) := by show _ = _; rw [hw5, hO]; exact heap_alloc_new w4 _
  have O5 : Hid (OR 52 3 w5 w1.heap.size A0 n c0 (fl xs)) := by rw [hw5]; exact OR.alloc O4.out _
  have B5 : Hid (Below w1.heap.size w1 w5) := by rw [hw5]; exact B4.out.alloc B4.out.size _
  have ZO := Lib.hid (show w1.heap.size ≤ O by rw [hO]; exact B4.out.size)
  have HW5 := Lib.hid hw5
  clear hw5
  go_upto_region 7 with (fail)
  rw [← HW5.out, ← hO]
  clear HW5 hO
  obtain ⟨i0, hi0, hz0, hz1, hz2⟩ := info_parts Try.info_i64
  go_wp2_with fail
  go_loopw [1] (fun i wr => PRound w1 wr O (picks5 b xs m) i) (fun i _ => (intOf i).toNat)
  case atStart =>
    refine pround_mk m [] b xs none 0 A0 c0 rfl (by have := HT.out; simp; omega) ?_ (OR.void _ _) ?_ HK.out HA.out.symm B5.out
    · rw [← HN.out]; exact K5.out
    · rw [← HN.out]; exact O5.out
  case round =>
    obtain ⟨k, is, bb, ys, I, d, A', c', rfl, hsz, hbx, hoi, hoa, hsf, hgo, hbw⟩ := hrel
    have XB := Lib.hid hbx; have OI := Lib.hid hoi; have OA := Lib.hid hoa; have SF := Lib.hid hsf; have GO := Lib.hid hgo; have BW := Lib.hid hbw
    have SZ := Lib.hid hsz
    clear hbx hoi hoa hsf hgo hbw hsz K5 O5 B5 O4 B4
    by_cases hlt : 0 < k
    · obtain ⟨k, rfl⟩ : ∃ j, k = j + 1 := ⟨k - 1, by omega⟩
      have ar : (0 : Int) < ((k + 1 : Nat) : Int) := by omega
      obtain ⟨z1, z2, z3, z4⟩ := sf5_zero SF.out
      have PQ := Lib.hid (l5Picks2_any A' c' O bb ys wr z1 z3.len XB.out)
      by_cases hq : pq5 bb ys = 0
      rotate_left
      · have HC : Hid (picks5 b xs m = ep5 (pq5 bb ys)) := by
          show _ = _
          rw [← GO.out]
          unfold pks5
          rw [if_neg hq]
        have hq2 : (pq5 bb ys != 0) = true := by simpa using hq
        generalize pq5 bb ys = q at *
        clear z1 z2 z3 z4
        go_wp2_with fail
        refine PQ.out.mono ?_
        rintro e9 w9 ⟨rfl, rfl⟩
        clear PQ
        have RB := KR.out wr BW.out
        have r0 := cell_of_row wr _ 0 _ _ _ RB; have f0 := frozen_of_row wr _ 0 _ _ RB; have r1 := cell_of_row wr _ 1 _ _ _ RB; have f1 := frozen_of_row wr _ 1 _ _ RB; have r2 := cell_of_row wr _ 2 _ _ _ RB; have f2 := frozen_of_row wr _ 2 _ _ RB; have r3 := cell_of_row wr _ 3 _ _ _ RB; have f3 := frozen_of_row wr _ 3 _ _ RB
        simp at r0 r1 r2 r3
        have HRB := Lib.hid RB
        clear RB
        go_wp2
        refine bodyPost_ret (results_cell_row rfl _ _ _ _ _ (0, 0) _ rfl (set4_block HRB.out _ _ _ _) Try.underlying48 rfl (by kernel_rfl)) rfl ?_
        rw [HC.out]
        exact pa_box HRB.out (by omega) (FIN.out _ BW.out) (ep5 q) (OR.void _ _) (OR.void _ _)
      have GN : Hid (pks5 k (is ++ [(lst ys).1.1]) (nb5 bb ys) (ny5 ys) = picks5 b xs m) := by
        show _ = _
        rw [← GO.out]
        conv => rhs; unfold pks5
        rw [if_pos hq]
      have SN := Lib.hid (pick_next SF.out hq)
      have hne : 0 < ys.length := List.length_pos_iff.2 fun e => by unfold pq5 at hq; rw [if_pos e] at hq; exact absurd hq (by decide)
      have PI : Hid (Calls Try.prog 76 #[.pointer (some ⟨O, 2, none⟩)] wr fun e w' => ∃ A9 c9, e = .returned (.tuple #[.agg #[.int .i64 (nb5 bb ys), .slice A9 (ny5 ys).length c9], .int .i64 (lst ys).1.1]) ∧ OR 52 3 w' wr.heap.size A9 (ny5 ys).length c9 (fl (ny5 ys)) ∧ Below wr.heap.size wr w') :=
        l5Pick2_any w1.heap.size wr.heap.size A' c' O bb ys wr z3 hne z2 z1 (OR.sl0 OA.out) XB.out
      rw [hq] at PQ
      clear z1 z2 z3 z4 hq hne
      generalize ny5 ys = zs at *
      generalize nb5 bb ys = nb at *
      generalize (lst ys).1.1 = id5 at *
      go_wp2_with fail
      refine PQ.out.mono ?_
      rintro e9 w9 ⟨rfl, rfl⟩
      clear PQ
      go_wp2_with fail
      refine PI.out.mono ?_
      rintro e w3 ⟨A9, c9, rfl, ho, hb⟩
      clear PI
      obtain ⟨w4, hw4⟩ : ∃ w4, w4 = w3.alloc (.cells #[.int .i64 nb, .slice A9 zs.length c9] 43) := ⟨_, rfl⟩
      obtain ⟨g8, hg8⟩ : ∃ g, g = w3.heap.size := ⟨_, rfl⟩
      have NB4 : Hid (Below wr.heap.size wr w4) := by rw [hw4]; exact hb.alloc hb.size _
      have X8 : Hid (w4.heap[g8]? = some (.cells #[.int .i64 nb, .slice A9 zs.length c9] 43 (0, 0))) := by show _ = _; rw [hw4, hg8]; exact heap_alloc_new w3 _
      have OA4 : Hid (OR 52 3 w4 w1.heap.size A9 zs.length c9 (fl zs)) := by rw [hw4]; exact OR.alloc (OR.mono ho BW.out.size) _
      have OI4 : Hid (OR 2 1 w4 w1.heap.size I is.length d is) := OR.below OI.out NB4.out (Nat.le_refl _)
      have XO4 := Lib.hid ((NB4.out.block O (Array.getElem?_eq_some_iff.1 XB.out).1).trans XB.out)
      have B4 := Lib.hid (BW.out.trans (NB4.out.mono BW.out.size))
      have HW4 := Lib.hid hw4
      clear hw4 ho hb
      go_upto_region 13 with (fail)
      rw [← HW4.out, ← hg8]
      clear HW4 hg8
      have e0 := cell_of_row w4 _ 0 _ _ _ X8.out; have e1 := cell_of_row w4 _ 1 _ _ _ X8.out
      have x2 := cell_of_row w4 _ 2 _ _ _ XO4.out; have x3 := cell_of_row w4 _ 3 _ _ _ XO4.out; have f2 := frozen_of_row w4 _ 2 _ _ XO4.out; have f3 := frozen_of_row w4 _ 3 _ _ XO4.out
      simp at e0 e1 x2 x3
      obtain ⟨w5, hw5⟩ : ∃ w5, w5 = (w4.setCell ⟨O, 2, none⟩ (.int .i64 nb)).setCell ⟨O, 3, none⟩ (.slice A9 zs.length c9) := ⟨_, rfl⟩
      have Y1 := heap_setCell_same w4 O 2 _ _ (.int .i64 nb) XO4.out
      have XO5 : Hid (w5.heap[O]? = some (.cells #[.int .i64 0, .slice I is.length d, .int .i64 nb, .slice A9 zs.length c9] 48 (0, 0))) := by show _ = _; rw [hw5]; exact heap_setCell_same _ _ 3 _ _ _ Y1
      have OA5 : Hid (OR 52 3 w5 w1.heap.size A9 zs.length c9 (fl zs)) := by rw [hw5]; exact OR.setOther (OR.setOther OA4.out XO4.out (by decide) 2 _) Y1 (by decide) 3 _
      have OI5 : Hid (OR 2 1 w5 w1.heap.size I is.length d is) := by rw [hw5]; exact OR.setOther (OR.setOther OI4.out XO4.out (by decide) 2 _) Y1 (by decide) 3 _
      have B5 : Hid (Below w1.heap.size w1 w5) := by rw [hw5]; exact (B4.out.setCell (p := ⟨O, 2, none⟩) ZO.out _).setCell (p := ⟨O, 3, none⟩) ZO.out _
      have HW5 := Lib.hid hw5
      clear hw5 Y1 OA4 OI4 B4 NB4
      go_upto_region 14 with (fail)
      rw [← HW5.out]
      clear HW5 e0 e1 x2 x3 f2 f3 X8 XO4
      have x1 := cell_of_row w5 _ 1 _ _ _ XO5.out
      simp at x1
      have O6 : Hid (OR 2 1 (w5.alloc (.cells #[.int .i64 id5] 2)) w1.heap.size I is.length d is) := OR.alloc OI5.out _
      have A6 : Hid (OR 52 3 (w5.alloc (.cells #[.int .i64 id5] 2)) w1.heap.size A9 zs.length c9 (fl zs)) := OR.alloc OA5.out _
      have X6 : Hid ((w5.alloc (.cells #[.int .i64 id5] 2)).heap[O]? = some (.cells #[.int .i64 0, .slice I is.length d, .int .i64 nb, .slice A9 zs.length c9] 48 (0, 0))) := ((below_new w5 _).block O (Array.getElem?_eq_some_iff.1 XO5.out).1).trans XO5.out
      have B6 : Hid (Below w1.heap.size w1 (w5.alloc (.cells #[.int .i64 id5] 2))) := B5.out.alloc B5.out.size _
      have NW := Lib.hid (one_new6 w5 id5)
      have HWK := Lib.hid (IntWalk.i64_in (k : Int) (by have := SZ.out; omega))
      have hwk := HWK.out
      go_wp2_with (at_builtin; refine wpList_append_own _ rfl (.tmp 40) (.tmp 42) 46 rfl w1.heap.size 2 i0 (.int .i64 0) 1 8 Try.underlying46 hi0 hz0 hz1 hz2 rfl (by decide) (.slice I is.length d) is.length (vals is) rfl O6.out ⟨w5.heap.size, 0, none⟩ 1 1 [.int .i64 id5] rfl rfl NW.out (by simp [Value.oneCell']) (by have := SZ.out; unfold maxLen; omega) (by have := SZ.out; omega) B6.out.size ?_; intro v7 w7 hown hgrow hat; obtain ⟨I7, d7, rfl, ho7⟩ := row_more6 hown; have OI7 := Lib.hid ho7; have OA7 := Lib.hid (OR.grownOther5 A6.out O6.out (by decide) hgrow); have K7 := Lib.hid ((hgrow.block O (Array.getElem?_eq_some_iff.1 X6.out).1 (own_ne_any5 O6.out X6.out (by decide))).trans X6.out); have B7 := Lib.hid (below_append B6.out B6.out.size O6.out hgrow); have y1 := cell_of_row w7 _ 1 _ _ _ K7.out; have f7 := frozen_of_row w7 _ 1 _ _ K7.out; simp at y1; clear hown hgrow hat ho7)
      go_roundw
      case rel =>
        have e9 : (is ++ [id5]).length = is.length + 1 := by simp
        refine pround_mk k (is ++ [id5]) nb zs I7 d7 A9 c9 (by have := SZ.out; first | rfl | go_num) (by rw [e9]; have := SZ.out; omega) ?_ ?_ ?_ SN.out GN.out (B7.out.setCell (p := ⟨O, 1, none⟩) ZO.out _)
        · rw [e9]; exact heap_setCell_same _ _ 1 _ _ _ K7.out
        · rw [e9]; exact OR.setOther OI7.out K7.out (by decide) 1 _
        · exact OR.setOther OA7.out K7.out (by decide) 1 _
      case measure => have := SZ.out; have := HWK.out; simp [intOf] at this ⊢; (try rw [this]); (try omega)
    · obtain rfl : k = 0 := by omega
      have ar : ¬ (0 : Int) < ((0 : Nat) : Int) := by omega
      have HC : Hid (picks5 b xs m = (0, is, bb, ys)) := by show _ = _; rw [← GO.out]; rfl
      have s0 := cell_of_row wr _ 0 _ _ _ XB.out; have s1 := cell_of_row wr _ 1 _ _ _ XB.out; have s2 := cell_of_row wr _ 2 _ _ _ XB.out; have s3 := cell_of_row wr _ 3 _ _ _ XB.out
      simp at s0 s1 s2 s3
      have RB := KR.out wr BW.out
      have r0 := cell_of_row wr _ 0 _ _ _ RB; have f0 := frozen_of_row wr _ 0 _ _ RB; have r1 := cell_of_row wr _ 1 _ _ _ RB; have f1 := frozen_of_row wr _ 1 _ _ RB; have r2 := cell_of_row wr _ 2 _ _ _ RB; have f2 := frozen_of_row wr _ 2 _ _ RB; have r3 := cell_of_row wr _ 3 _ _ _ RB; have f3 := frozen_of_row wr _ 3 _ _ RB
      simp at r0 r1 r2 r3
      have HRB := Lib.hid RB
      clear RB
      go_wp2
      refine bodyPost_ret (results_cell_row rfl _ _ _ _ _ (0, 0) _ rfl (set4_block HRB.out _ _ _ _) Try.underlying48 rfl (by kernel_rfl)) rfl ?_
      rw [HC.out]
      exact pa_box HRB.out (by omega) (FIN.out _ BW.out) ((0, is, bb, ys)) (OR.mono OI.out (by have := Z1.out; omega)) (OR.mono OA.out (by have := Z1.out; omega))

end Go.Proofs.Ytckapndpefkcgaa
