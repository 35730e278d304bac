/-
  The model's RebaseSched. No conditions beyond that the list can be read.
-/
import Derived.Test.YtckapndpefkcgaaSpec5b
set_option maxHeartbeats 1000000
namespace Go.Proofs.Ytckapndpefkcgaa
open Go.RowKit
set_option maxRecDepth 100000

structure RB (w1 W : World) (O : Nat) (A : Option Addr) (c : Nat) (ys : List R3) : Prop where
  ob : W.heap[O]? = some (.cells #[.int .i64 0, .slice A ys.length c] 43 (0, 0))
  ol : OR 52 3 W (O + 1) A ys.length c (fl ys)
  bw : Below w1.heap.size w1 W
  sz : O + 1 ≤ W.heap.size
  lo : w1.heap.size ≤ O
theorem RB.more {w1 W W' w7 : World} {O : Nat} {A : Option Addr} {c : Nat} {ys : List R3} {y0 y1 y2 : Int} {g cap : Nat} (h : RB w1 W O A c ys) (hk : Below W.heap.size W W') (hg : W'.grownBy w7 (Value.slice A ys.length c).ownBlock)
    (ho : w7.ownsRow (O + 1) 52 3 (.slice (some ⟨g, 0, none⟩) (ys.length + 1) cap) (ys.length + 1) (vals (fl ys) ++ [.int .i64 y0, .int .i64 y1, .int .i64 y2])) :
    RB w1 (w7.setCell ⟨O, 1, none⟩ (.slice (some ⟨g, 0, none⟩) (ys.length + 1) cap)) O (some ⟨g, 0, none⟩) cap (ys ++ [(y0, y1, y2)]) := by
  have hs := h.sz
  have s1 := hk.size
  have O1 : OR 52 3 W' (O + 1) A ys.length c (fl ys) := OR.below h.ol hk (Nat.le_refl _)
  have BB : Below (O + 1) W' w7 := (Below.refl _ _).grown hg (by omega) fun k e => by
    rcases O1.2 with ⟨h0, _⟩ | ⟨g', cap', cur, h0, hb', _⟩
    · injection h0 with h0 _ _; subst h0; cases e
    · injection h0 with h0 _ _
      subst h0
      have e' : g' = k := Option.some.inj e
      omega
  have ho : OR 52 3 w7 (O + 1) (some ⟨g, 0, none⟩) (ys.length + 1) cap (fl (ys ++ [(y0, y1, y2)])) := by
    rw [show vals (fl ys) ++ [Value.int .i64 y0, .int .i64 y1, .int .i64 y2] = vals (fl (ys ++ [(y0, y1, y2)])) by simp [vals, fl_snoc]] at ho
    exact ho
  have ob7 := (BB.block O (by omega)).trans ((hk.block O (by omega)).trans h.ob)
  refine ⟨?_, ?_, ?_, by have := BB.size; simp; omega, h.lo⟩
  · simp only [List.length_append, List.length_singleton]; exact heap_setCell_same w7 _ 1 _ _ _ ob7
  · simp only [List.length_append, List.length_singleton]; exact OR.setOther ho ob7 (by decide) 1 _
  · exact ((h.bw.trans (hk.mono (by have := h.bw.size; omega))).trans (BB.mono (by have := h.lo; omega))).setCell (p := ⟨O, 1, none⟩) h.lo _

set_option maxHeartbeats 8000000 in
theorem specRebaseSched_any (lo hi : Nat) (A : Option Addr) (c : Nat) (b : Int) (xs : List R3) (w : World) (hn : xs.length ≤ 9223372036854775807) (h : RS w lo hi A xs) :
    Calls Try.prog 50 #[.agg #[.int .i64 b, .slice A xs.length c]] w (SA (rebase5 b xs) w) := by
  have H := Lib.hid h.lt
  obtain ⟨n, hn'⟩ : ∃ n, n = xs.length := ⟨_, rfl⟩
  have HN := Lib.hid hn'
  have HNN := Lib.hid hn
  rw [← hn']
  clear h hn' hn
  obtain ⟨w1, hw1⟩ : ∃ w1, w1 = (w.alloc (.cells #[.int .i64 b, .slice A n c] 43)).alloc (.cells #[.int .i64 0, .int .i64 0, .int .i64 0, .int .i64 0, .slice none 0 0] 56) := ⟨_, rfl⟩
  have K1 : Hid (w1.heap[w.heap.size]? = some (.cells #[.int .i64 b, .slice A n c] 43 (0, 0))) := by show _ = _; rw [hw1]; exact heap_alloc2_old w _ _
  have K2 : Hid (w1.heap[w.heap.size + 1]? = some (.cells #[.int .i64 0, .int .i64 0, .int .i64 0, .int .i64 0, .slice none 0 0] 56 (0, 0))) := by show _ = _; rw [hw1]; exact heap_alloc2_new w _ _
  have B1 : Hid (Below w.heap.size w w1) := by rw [hw1]; exact (below_new w _).alloc (by simp) _
  have Z1 : Hid (w1.heap.size = w.heap.size + 2) := by show _ = _; rw [hw1]; simp
  have KS : Hid (∀ W, Below w1.heap.size w1 W → W.cell? ⟨w.heap.size, 0, none⟩ = some (.int .i64 b) ∧ W.cell? ⟨w.heap.size, 1, none⟩ = some (.slice A n c)) := fun W hW => by
    have j := (hW.block w.heap.size (by have := Z1.out; omega)).trans K1.out
    exact ⟨cell_of_row W _ 0 _ _ _ j, cell_of_row W _ 1 _ _ _ j⟩
  have KR : Hid (∀ W, Below w1.heap.size w1 W → W.heap[w.heap.size + 1]? = some (.cells #[.int .i64 0, .int .i64 0, .int .i64 0, .int .i64 0, .slice none 0 0] 56 (0, 0))) := fun W hW => (hW.block (w.heap.size + 1) (by have := Z1.out; omega)).trans K2.out
  have FIN : Hid (∀ W, Below w1.heap.size w1 W → Below w.heap.size w W) := fun W hW => B1.out.trans (hW.mono (by have := Z1.out; omega))
  have H1 := Lib.hid (H.out.below B1.out (Nat.min_le_right _ _))
  have SF := Lib.hid (specSchedFault_any lo (min hi w.heap.size) A c b xs w1 HNN.out H1.out)
  rw [← HN.out] at SF
  obtain ⟨q0, q1⟩ := KS.out w1 (Below.refl _ _)
  have HW1 := Lib.hid hw1
  clear hw1
  by_cases hk : sf5 b xs = 0
  rotate_left
  · have HA : Hid (rebase5 b xs = e5 (sf5 b xs)) := by show _ = _; unfold rebase5; rw [if_pos hk]
    have hk2 : (sf5 b xs != 0) = true := by simpa using hk
    go_enter Try.func50, Try.ntmps50
    go_upto_region 1 with (fail)
    rw [← HW1.out]
    clear HW1
    go_wp2_with fail
    refine SF.out.mono ?_
    rintro e w2 ⟨rfl, hb⟩
    have B2 := Lib.hid hb
    clear hb SF
    have RB := KR.out w2 B2.out
    have r0 := cell_of_row w2 _ 0 _ _ _ RB; have f0 := frozen_of_row w2 _ 0 _ _ RB
    have r1 := cell_of_row w2 _ 1 _ _ _ RB; have f1 := frozen_of_row w2 _ 1 _ _ RB
    have r2 := cell_of_row w2 _ 2 _ _ _ RB; have f2 := frozen_of_row w2 _ 2 _ _ RB
    have r3 := cell_of_row w2 _ 3 _ _ _ RB; have f3 := frozen_of_row w2 _ 3 _ _ RB
    have r4 := cell_of_row w2 _ 4 _ _ _ RB; have f4 := frozen_of_row w2 _ 4 _ _ RB
    simp at r0 r1 r2 r3 r4
    have HRB := Lib.hid RB
    clear RB
    generalize sf5 b xs = q at *
    go_wp2
    refine bodyPost_ret (results_cell_row rfl _ _ _ _ _ (0, 0) _ rfl (set5_block HRB.out _ _ _ _ _) Try.underlying56 rfl (by kernel_rfl)) rfl ?_
    rw [HA.out]
    exact sa_box HRB.out (by omega) (FIN.out _ B2.out) (e5 (q)) (OR.void _ _)
  obtain ⟨z1, z2, z3, z4⟩ := sf5_zero hk
  have HB := Lib.hid z1; have HO := Lib.hid z2; have HR := Lib.hid z3; have HM := Lib.hid z4
  have HK := Lib.hid hk
  rw [hk] at SF
  clear hk z1 z2 z3 z4
  go_enter Try.func50, Try.ntmps50
  go_upto_region 1 with (fail)
  rw [← HW1.out]
  clear HW1
  go_wp2_with fail
  refine SF.out.mono ?_
  rintro e w2 ⟨rfl, hb⟩
  have B2 := Lib.hid hb
  clear hb SF q0 q1
  obtain ⟨q0, q1⟩ := KS.out w2 B2.out
  have HA : Hid (rebase5 b xs = (0, 0, b, 0, xs.map (sh5 b))) := by
    show _ = _
    unfold rebase5
    rw [if_neg (by rw [HK.out]; decide)]
  obtain ⟨i0, hi0, hz0, hz1, hz2⟩ := info_parts infoReady
  have HL5 := Lib.hid HR.out.len
  have hn5 : n ≤ 5 := by have := HL5.out; have := HN.out; omega
  obtain ⟨O, hO⟩ : ∃ O, O = w2.heap.size := ⟨_, rfl⟩
  obtain ⟨w3, hw3⟩ : ∃ w3, w3 = w2.alloc (.cells #[.int .i64 0, .slice none 0 0] 43) := ⟨_, rfl⟩
  have J3 : Hid (RB w1 w3 O none 0 []) := by
    rw [hw3, hO]
    exact ⟨heap_alloc_new w2 _, OR.void _ _, B2.out.trans ((below_new w2 _).mono B2.out.size), by simp, B2.out.size⟩
  have HW3 := Lib.hid hw3; have HO3 := Lib.hid hO
  clear hw3 hO
  go_upto_region 5 with (fail)
  rw [← HW3.out, ← HO3.out]
  clear HW3 HO3 q0 q1
  go_wp2
  go_loopw [5] (fun iv wr => ∃ (k : Nat) (A' : Option Addr) (c' : Nat), k ≤ n ∧ iv = .int .i64 k ∧ RB w1 wr O A' c' ((xs.take k).map (sh5 b))) (fun iv _ => n - (intOf iv).toNat)
  case atStart => exact ⟨0, none, 0, Nat.zero_le _, rfl, J3.out⟩
  case round =>
    obtain ⟨k, A', c', hk, rfl, hj⟩ := hrel
    have J := Lib.hid hj
    obtain ⟨q0, q1⟩ := KS.out wr hj.bw
    have o0 := cell_of_row wr _ 0 _ _ _ hj.ob; have o1 := cell_of_row wr _ 1 _ _ _ hj.ob
    simp only [List.getElem?_toArray, List.getElem?_cons_zero, List.getElem?_cons_succ] at o0 o1
    clear hj
    by_cases hlt : k < n
    · have LT := Lib.hid hlt
      have hkx : k < xs.length := by have := HN.out; omega
      have ML := Lib.hid (show ((xs.take k).map (sh5 b)).length ≤ 5 by
        rw [List.length_map, List.length_take]
        have := HL5.out
        omega)
      have SN : Hid ((xs.take (k + 1)).map (sh5 b) = (xs.take k).map (sh5 b) ++ [sh5 b (g3 xs k)]) := by show _ = _; rw [take_snoc xs k hkx, List.map_append]; rfl
      have OKX := Lib.hid (okR_mem HO.out (g3_mem hkx))
      obtain ⟨bb, off, rfl, e1, e2, hc⟩ := RS.get H1.out (i := k) (by have := HN.out; omega)
      obtain ⟨d0, d1, d2⟩ := hc k (by have := HN.out; omega)
      have a0 : wr.cell? ⟨bb, off + k * 3, none⟩ = some (.int .i64 (g3 xs k).1) := (J.out.bw.cell (p := ⟨bb, off + k * 3, none⟩) (by have := Z1.out; simp; omega)).trans d0
      have a1 : wr.cell? ⟨bb, off + k * 3 + 1, none⟩ = some (.int .i64 (g3 xs k).2.1) := (J.out.bw.cell (p := ⟨bb, off + k * 3 + 1, none⟩) (by have := Z1.out; simp; omega)).trans d1
      have a2 : wr.cell? ⟨bb, off + k * 3 + 2, none⟩ = some (.int .i64 (g3 xs k).2.2) := (J.out.bw.cell (p := ⟨bb, off + k * 3 + 2, none⟩) (by have := Z1.out; simp; omega)).trans d2
      clear hc d0 d1 d2 e1 e2
      obtain ⟨⟨x0, x1, x2⟩, hx⟩ : ∃ x : R3, x = g3 xs k := ⟨_, rfl⟩
      rw [← hx] at a0 a1 a2 OKX SN
      clear hx
      generalize (xs.take k).map (sh5 b) = ys at *
      have OK2 := Lib.hid (show b ≤ x2 ∧ x2 ≤ b + 2520 by
        have h1 := OKX.out
        unfold okR at h1
        simp at h1
        have := strd_in h1.1.2
        omega)
      obtain ⟨y2, hy2⟩ : ∃ y2, y2 = x2 - b := ⟨_, rfl⟩
      have SN : Hid ((xs.take (k + 1)).map (sh5 b) = ys ++ [(x0, x1, y2)]) := by show _ = _; rw [SN.out, hy2]; rfl
      have HY2 := Lib.hid hy2
      clear hy2
      obtain ⟨wa, hwa⟩ : ∃ wa, wa = wr.alloc (.cells #[.int .i64 x0, .int .i64 x1, .int .i64 x2] 52) := ⟨_, rfl⟩
      have XA : Hid (wa.heap[wr.heap.size]? = some (.cells #[.int .i64 x0, .int .i64 x1, .int .i64 x2] 52 (0, 0))) := by show _ = _; rw [hwa]; exact heap_alloc_new wr _
      have NA : Hid (Below wr.heap.size wr wa) := by rw [hwa]; exact below_new wr _
      have ZA : Hid (wa.heap.size = wr.heap.size + 1) := by show _ = _; rw [hwa]; simp
      have HWA := Lib.hid hwa
      obtain ⟨wb, hwb⟩ : ∃ wb, wb = wa.setCell ⟨wr.heap.size, 2, none⟩ (.int .i64 y2) := ⟨_, rfl⟩
      have XB : Hid (wb.heap[wr.heap.size]? = some (.cells #[.int .i64 x0, .int .i64 x1, .int .i64 y2] 52 (0, 0))) := by show _ = _; rw [hwb]; exact heap_setCell_same wa _ 2 _ _ _ XA.out
      have NB : Hid (Below wr.heap.size wr wb) := by rw [hwb]; exact NA.out.setCell (p := ⟨wr.heap.size, 2, none⟩) (Nat.le_refl _) _
      have ZB : Hid (wb.heap.size = wr.heap.size + 1) := by show _ = _; rw [hwb]; simpa using ZA.out
      have HWB := Lib.hid hwb
      clear hwa hwb
      go_upto_region 9 with (fail)
      rw [← HWA.out]
      clear HWA q0 q1 o0 o1 a0 a1 a2
      have b0 := cell_of_row wa _ 0 _ _ _ XA.out; have b1 := cell_of_row wa _ 1 _ _ _ XA.out; have b2 := cell_of_row wa _ 2 _ _ _ XA.out; have fb := frozen_of_row wa _ 2 _ _ XA.out
      simp at b0 b1 b2
      obtain ⟨q0, q1⟩ := KS.out wa (J.out.bw.trans (NA.out.mono J.out.bw.size))
      go_upto_region 10 with (fail)
      rw [show wrap64 (x2 - b) = y2 from by have := HY2.out; have := OK2.out; have := HB.out; unfold wrap64; omega, ← HWB.out]
      clear HWB q0 q1 b0 b1 b2 fb
      have JB : Hid (wb.heap[O]? = some (.cells #[.int .i64 0, .slice A' ys.length c'] 43 (0, 0))) := (NB.out.block O (by have := J.out.sz; omega)).trans J.out.ob
      have o0 := cell_of_row wb _ 0 _ _ _ JB.out; have o1 := cell_of_row wb _ 1 _ _ _ JB.out
      have b0 := cell_of_row wb _ 0 _ _ _ XB.out; have b1 := cell_of_row wb _ 1 _ _ _ XB.out; have b2 := cell_of_row wb _ 2 _ _ _ XB.out
      simp at o0 o1 b0 b1 b2
      have NN : Hid (Below wr.heap.size wr (wb.alloc (.cells #[.int .i64 x0, .int .i64 x1, .int .i64 y2] 52))) := NB.out.alloc (by have := ZB.out; omega) _
      have O3 := Lib.hid (show OR 52 3 (wb.alloc (.cells #[.int .i64 x0, .int .i64 x1, .int .i64 y2] 52)) (O + 1) A' ys.length c' (fl ys) from OR.below J.out.ol NN.out (Nat.le_refl _))
      have NW := Lib.hid (show ∀ j u, [Value.int .i64 x0, .int .i64 x1, .int .i64 y2][j]? = some u → (wb.alloc (.cells #[.int .i64 x0, .int .i64 x1, .int .i64 y2] 52)).cell? ((⟨wb.heap.size, 0, none⟩ : Addr).add j) = some u from fun j u h => cell_three_new wb _ _ _ _ j u h)
      have Z3 := Lib.hid (show O + 1 ≤ (wb.alloc (.cells #[.int .i64 x0, .int .i64 x1, .int .i64 y2] 52)).heap.size by have := J.out.sz; have := ZB.out; simp; omega)
      have XO3 := Lib.hid ((NN.out.block O (by have := J.out.sz; omega)).trans J.out.ob)
      go_upto_region 7 with (at_builtin; refine wpList_append_lies _ rfl (.tmp 33) (.tmp 35) 41 rfl (O + 1) 52 i0 (.agg #[.int .i64 0, .int .i64 0, .int .i64 0]) 3 24 Try.underlying41 hi0 hz0 hz1 hz2 rfl (by decide) (.slice A' ys.length c') ys.length _ rfl O3.out ⟨wb.heap.size, 0, none⟩ 1 1 [.int .i64 x0, .int .i64 x1, .int .i64 y2] rfl rfl NW.out (by simp [Value.oneCell']) (by decide) (by have := ML.out; unfold maxLen; omega) (by have := ML.out; omega) Z3.out _ rfl ?_; intro g7 cap w7 hown hgrow hat hlt; have K7 := Lib.hid ((hgrow.block O (Array.getElem?_eq_some_iff.1 XO3.out).1 (or_own_ne XO3.out (by decide) O3.out)).trans XO3.out); have y1 := cell_of_row w7 _ 1 _ _ _ K7.out; have f7 := frozen_of_row w7 _ 1 _ _ K7.out; simp at y1; have HO7 := Lib.hid hown; have HG7 := Lib.hid hgrow; clear hown hgrow hat hlt)
      have JN := Lib.hid (RB.more J.out NN.out HG7.out HO7.out)
      rw [← SN.out] at JN
      go_wp2
      go_roundw
      case rel => exact ⟨k + 1, some ⟨g7, 0, none⟩, cap, by have := LT.out; omega, by go_num, JN.out⟩
      case measure => have := LT.out; simp [intOf]; omega
    · obtain rfl : k = n := by omega
      have TKN : Hid (xs.take k = xs) := List.take_of_length_le (by have := HN.out; omega)
      rw [TKN.out] at J o1
      clear TKN
      generalize xs.map (sh5 b) = ys at *
      have B4 := Lib.hid J.out.bw
      have O4 := Lib.hid (OR.mono (base' := w.heap.size) J.out.ol (by have := J.out.lo; have := Z1.out; omega))
      have RB := KR.out _ B4.out
      have r0 := cell_of_row wr _ 0 _ _ _ RB; have f0 := frozen_of_row wr _ 0 _ _ RB
      have r1 := cell_of_row wr _ 1 _ _ _ RB; have f1 := frozen_of_row wr _ 1 _ _ RB
      have r2 := cell_of_row wr _ 2 _ _ _ RB; have f2 := frozen_of_row wr _ 2 _ _ RB
      have r3 := cell_of_row wr _ 3 _ _ _ RB; have f3 := frozen_of_row wr _ 3 _ _ RB
      have r4 := cell_of_row wr _ 4 _ _ _ RB; have f4 := frozen_of_row wr _ 4 _ _ RB
      simp at r0 r1 r2 r3 r4
      have HRB := Lib.hid RB
      clear RB
      go_wp2
      refine bodyPost_ret (results_cell_row rfl _ _ _ _ _ (0, 0) _ rfl (set5_block HRB.out _ _ _ _ _) Try.underlying56 rfl (by kernel_rfl)) rfl ?_
      rw [HA.out]
      exact sa_box HRB.out (by omega) (FIN.out _ B4.out) ((0, 0, b, 0, ys)) (O4.out)

theorem rebase5_len (b : Int) (xs : List R3) : (rebase5 b xs).2.2.2.2.length ≤ 6 := by
  unfold rebase5
  by_cases h : sf5 b xs = 0
  · rw [if_neg (by rw [h]; decide)]
    obtain ⟨_, _, hr, _⟩ := sf5_zero h
    have := hr.len
    show (xs.map (sh5 b)).length ≤ 6
    rw [List.length_map]
    omega
  · rw [if_pos h]; simp [e5]

end Go.Proofs.Ytckapndpefkcgaa
