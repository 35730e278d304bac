/-
  The program's HeapOf: it answers as the model's. No conditions beyond that the list can be read.
-/
import Derived.BigRegion
import Derived.BigQuiet
import Derived.StillTailTactics
import Derived.Deep.RegionHeld3
import Derived.Laws.Tables
import Derived.Laws.CopyOwn
import Derived.Test.YtckapndpefkcgaaImpl4h
import Derived.Test.YtckapndpefkcgaaSpec4g
import Derived.Test.YtckapndpefkcgaaMath4
import Derived.Test.YtckapndpefkcgaaKit4
set_option maxHeartbeats 1000000
namespace Go.Proofs.Ytckapndpefkcgaa
open Go.RowKit
set_option maxRecDepth 100000

theorem pushH_err {hs : List Int} {n : Nat} {p d : Int} (h : (pushH hs n p d).1 ≠ 0) : (pushH hs n p d).2 = [] := by
  unfold pushH at h ⊢
  repeat' split
  all_goals first | rfl | (simp_all; done)

set_option maxHeartbeats 1000000 in
theorem implHeapOf_any (lo hi : Nat) (A : Option Addr) (n c : Nat) (ls : List Int) (w : World) (hn : n * 16 ≤ 140737488351232) (h : Sl w lo hi A (n * 2) (fun k => .int .i64 (gi ls k))) :
    Calls Try.prog 13 #[.slice A n c] w (HAns (heapOf4 ls n) w) := by
  obtain ⟨w2, hw2⟩ : ∃ w2, w2 = w.alloc (.cells #[.int .i64 0, .slice none 0 0] 30) := ⟨_, rfl⟩
  have k2 : w2.heap[w.heap.size]? = some (.cells #[.int .i64 0, .slice none 0 0] 30 (0, 0)) := by rw [hw2]; exact heap_alloc_new w _
  have B2 : Hid (Below w.heap.size w w2) := by rw [hw2]; exact below_new w _
  have Z2 : Hid (w2.heap.size = w.heap.size + 1) := by show _ = _; rw [hw2]; simp
  have H2 := Lib.hid (h.lt.below B2.out (Nat.min_le_right _ _))
  have HW2 := Lib.hid hw2
  clear h hw2
  by_cases h12 : 12 < n
  · have PE : Hid (heapOf4 ls n = (2, [])) := by show _ = _; unfold heapOf4; rw [if_pos h12]
    have hz : (12 : Int) < (n : Int) := by omega
    have K2 := Lib.hid k2
    have y0 := cell_of_row w2 _ 0 _ _ _ k2; have y1 := cell_of_row w2 _ 1 _ _ _ k2
    have f0 := frozen_of_row w2 _ 0 _ _ k2; have f1 := frozen_of_row w2 _ 1 _ _ k2
    simp at y0 y1
    clear k2
    go_enter Try.func13, Try.ntmps13
    go_upto_region 1 with (fail)
    rw [← HW2.out]
    go_wp2
    exact bodyPost_ret (results_cell_row rfl _ _ _ _ _ (0, 0) _ rfl (heap_setCell_same _ _ 1 _ _ _ (heap_setCell_same _ _ 0 _ _ _ K2.out)) Try.underlying30 rfl (by kernel_rfl)) rfl (hans_code PE.out ((B2.out.setCell (p := ⟨w.heap.size, 0, none⟩) (by first | omega | simp) _).setCell (p := ⟨w.heap.size, 1, none⟩) (by first | omega | simp) _))
  have hz : ¬ (12 : Int) < (n : Int) := by omega
  have HP : Hid (heapOf4 ls n = hof ls n 0 []) := by show _ = _; unfold heapOf4; rw [if_neg h12]
  obtain ⟨w3, hw3⟩ : ∃ w3, w3 = w2.alloc (.cells #[.int .i64 0, .slice none 0 0] 30) := ⟨_, rfl⟩
  obtain ⟨rb, hrb⟩ : ∃ rb, rb = w2.heap.size := ⟨_, rfl⟩
  have R3 := Lib.hid (show w3.heap[rb]? = some (.cells #[.int .i64 0, .slice none 0 0] 30 (0, 0)) by rw [hw3, hrb]; exact heap_alloc_new w2 _)
  have B3 := Lib.hid (show Below w2.heap.size w2 w3 by rw [hw3]; exact below_new w2 _)
  have Z3 := Lib.hid (show w3.heap.size = rb + 1 ∧ rb = w.heap.size + 1 by rw [hw3, hrb]; have := Z2.out; simp; omega)
  have K3 := Lib.hid ((B3.out.block w.heap.size (by have := Z2.out; omega)).trans k2)
  have H3 := Lib.hid (H2.out.below B3.out (by have := Z2.out; omega))
  have HW3 := Lib.hid hw3; have HRB := Lib.hid hrb
  have KR : Hid (∀ W, Kept [rb] w3 W → W.heap[w.heap.size]? = some (.cells #[.int .i64 0, .slice none 0 0] 30 (0, 0)) ∧ Below w.heap.size w W ∧ Sl W lo (min hi w.heap.size) A (n * 2) (fun k => .int .i64 (gi ls k))) := fun W hW => by
    have z := Z3.out
    exact ⟨(hW.2 w.heap.size (by omega) (by simp; omega)).trans K3.out, (B2.out.trans (B3.out.mono (by have := Z2.out; omega))).trans (hW.below (by omega) (fun b hb => by simp at hb; omega)), H3.out.kept hW (fun b hb => by simp at hb; omega)⟩
  clear k2 hw3 hrb H2
  go_enter Try.func13, Try.ntmps13
  go_upto_region 1 with (fail)
  rw [← HW2.out]
  go_upto_region 4 with (fail)
  rw [← HW3.out, ← HRB.out]
  clear HW2 HW3 HRB B3
  go_wp2_with fail
  go_loopw [12] (fun i wr => ∃ (k m : Nat) (A' : Option Addr) (c' : Nat) (out : List Int), k ≤ n ∧ m ≤ 12 ∧ i = .int .i64 k ∧ wr.heap[rb]? = some (.cells #[.int .i64 0, .slice A' m c'] 30 (0, 0)) ∧ OR 26 2 wr w3.heap.size A' m c' out ∧ hof ls (n - k) k out = hof ls n 0 [] ∧ Kept [rb] w3 wr) (fun i _ => n - (intOf i).toNat)
  case atStart => exact ⟨0, 0, none, 0, [], by omega, by omega, rfl, R3.out, OR.void _ _, rfl, Kept.refl _ _⟩
  case round =>
    obtain ⟨k, m, A', c', out, hk, hm, rfl, hr, ho, hu, hkk⟩ := hrel
    have RX := Lib.hid hr
    have OX := Lib.hid ho
    have UX := Lib.hid hu
    have KX := Lib.hid hkk
    clear hr ho hu hkk R3
    by_cases hlt : k < n
    · obtain ⟨b, off, rfl, b1, b2, hcc⟩ := (KR.out wr KX.out).2.2.at_ (show k * 2 < n * 2 by omega)
      have c0 : wr.cell? ⟨b, off + k * 2, none⟩ = some (.int .i64 (gi ls (k * 2))) := hcc (k * 2) (by omega)
      have c1 : wr.cell? ⟨b, off + k * 2 + 1, none⟩ = some (.int .i64 (gi ls (k * 2 + 1))) := hcc (k * 2 + 1) (by omega)
      obtain ⟨w5, hw5⟩ : ∃ w5, w5 = wr.alloc (.cells #[.int .i64 (gi ls (k * 2)), .int .i64 (gi ls (k * 2 + 1))] 26) := ⟨_, rfl⟩
      have k5 : w5.heap[wr.heap.size]? = some (.cells #[.int .i64 (gi ls (k * 2)), .int .i64 (gi ls (k * 2 + 1))] 26 (0, 0)) := by rw [hw5]; exact heap_alloc_new wr _
      have B5 := Lib.hid (show Below wr.heap.size wr w5 by rw [hw5]; exact below_new wr _)
      have O5 := Lib.hid (OX.out.below B5.out (Nat.le_refl _))
      have K5 := Lib.hid (KX.out.then_below B5.out)
      have R5 := Lib.hid ((B5.out.block rb (Array.getElem?_eq_some_iff.1 RX.out).1).trans RX.out)
      have HW5 := Lib.hid hw5
      have x0 := cell_of_row w5 _ 0 _ _ _ k5; have x1 := cell_of_row w5 _ 1 _ _ _ k5
      have y0 := cell_of_row w5 _ 0 _ _ _ R5.out; have y1 := cell_of_row w5 _ 1 _ _ _ R5.out
      simp at x0 x1 y0 y1
      have LO := Lib.hid OX.out.len
      have CP := Lib.hid (implPushHeap_any w3.heap.size w5.heap.size A' m c' out (gi ls (k * 2)) (gi ls (k * 2 + 1)) w5 (by omega) LO.out (fun e => by subst e; exact (OR.nil0 OX.out).2) OX.out.cap O5.out.sl0)
      clear hcc hw5 k5 OX KX RX
      go_upto_region 7 with (fail)
      rw [← HW5.out]
      clear HW5
      go_wp2_with fail
      refine CP.out.mono ?_
      rintro e w4 ⟨A2, n2, c2, rfl, ho, hb⟩
      have O4 := Lib.hid (OR.mono ho (show w3.heap.size ≤ w5.heap.size from K5.out.1.size))
      have K4 := Lib.hid (K5.out.then_below hb)
      have R4 := Lib.hid ((hb.block rb (Array.getElem?_eq_some_iff.1 R5.out).1).trans R5.out)
      obtain ⟨j, hj1, hj2, hj3⟩ := pushH_len out m (gi ls (k * 2)) (gi ls (k * 2 + 1)) LO.out
      have JL := Lib.hid (show n2 ≤ 12 by have := O4.out.len; omega)
      obtain ⟨q, hq⟩ : ∃ q, q = (pushH out m (gi ls (k * 2)) (gi ls (k * 2 + 1))).1 := ⟨_, rfl⟩
      rw [← hq]
      have HQ := Lib.hid hq
      clear ho hb CP hj1 hj2 hj3 hq x0 x1 y0 y1 c0 c1 O5 K5 R5
      have y0 := cell_of_row w4 _ 0 _ _ _ R4.out; have y1 := cell_of_row w4 _ 1 _ _ _ R4.out
      have f0 := frozen_of_row w4 _ 0 _ _ R4.out; have f1 := frozen_of_row w4 _ 1 _ _ R4.out
      simp at y0 y1
      go_upto_region 8 with (fail)
      obtain ⟨w6, hw6⟩ : ∃ w6, w6 = (w4.setCell ⟨rb, 0, none⟩ (.int .i64 q)).setCell ⟨rb, 1, none⟩ (.slice A2 n2 c2) := ⟨_, rfl⟩
      rw [← hw6]
      have R6 := Lib.hid (show w6.heap[rb]? = some (.cells #[.int .i64 q, .slice A2 n2 c2] 30 (0, 0)) by rw [hw6]; exact heap_setCell_same _ _ 1 _ _ _ (heap_setCell_same _ _ 0 _ _ _ R4.out))
      have K6 := Lib.hid (show Kept [rb] w3 w6 by rw [hw6]; exact (K4.out.setCell (p := ⟨rb, 0, none⟩) (by simp) _).setCell (p := ⟨rb, 1, none⟩) (by simp) _)
      have O6 := Lib.hid (show OR 26 2 w6 w3.heap.size A2 n2 c2 (pushH out m (gi ls (k * 2)) (gi ls (k * 2 + 1))).2 by
        rw [hw6]
        exact O4.out.keepAll fun g e => by
          subst e
          have h8 := (OR.lt O4.out).1; have h9 := Z3.out
          exact (Below.heap_setCell _ ⟨rb, 1, none⟩ _ _ (by show g ≠ rb; omega)).trans (Below.heap_setCell _ ⟨rb, 0, none⟩ _ _ (by show g ≠ rb; omega)))
      clear hw6 y0 y1 f0 f1 O4 K4 R4
      obtain ⟨k0, kb, _⟩ := KR.out w6 K6.out
      have KK := Lib.hid k0; have KB := Lib.hid kb
      have x0 := cell_of_row w6 _ 0 _ _ _ R6.out; have x1 := cell_of_row w6 _ 1 _ _ _ R6.out
      have y0 := cell_of_row w6 _ 0 _ _ _ k0; have y1 := cell_of_row w6 _ 1 _ _ _ k0
      have f0 := frozen_of_row w6 _ 0 _ _ k0; have f1 := frozen_of_row w6 _ 1 _ _ k0
      simp at x0 x1 y0 y1
      clear k0 kb
      by_cases hq0 : q = 0
      · subst hq0
        have UE : Hid (hof ls (n - (k + 1)) (k + 1) (pushH out m (gi ls (k * 2)) (gi ls (k * 2 + 1))).2 = hof ls n 0 []) := by
          show _ = _
          rw [← UX.out, show n - k = (n - (k + 1)) + 1 by omega, hof_go LO.out HQ.out.symm]
        go_wp2
        go_roundw
        case rel => exact ⟨k + 1, n2, A2, c2, _, by omega, JL.out, by go_num, R6.out, O6.out, UE.out, K6.out⟩
        case measure => first | (simp [intOf]; done) | (simp [intOf]; omega)
      · have PE : Hid (heapOf4 ls n = (q, (pushH out m (gi ls (k * 2)) (gi ls (k * 2 + 1))).2)) := by
          have hne : (pushH out m (gi ls (k * 2)) (gi ls (k * 2 + 1))).1 ≠ 0 := HQ.out ▸ hq0
          show _ = _
          rw [HP.out, ← UX.out, show n - k = (n - (k + 1)) + 1 by omega, hof_no LO.out hne, pushH_err hne, ← HQ.out]
        have hq1 : (q != 0) = true := by simp [hq0]
        go_wp2
        exact bodyPost_ret (results_cell_row rfl _ _ _ _ _ (0, 0) _ rfl (heap_setCell_same _ _ 1 _ _ _ (heap_setCell_same _ _ 0 _ _ _ KK.out)) Try.underlying30 rfl (by kernel_rfl)) rfl ⟨_, _, _, by rw [PE.out]; rfl, by rw [PE.out]; exact OR.mono (O6.out.keepAll fun g e => by subst e; exact (Below.heap_setCell _ ⟨w.heap.size, 1, none⟩ _ _ (by have h8 := (OR.lt O6.out).1; have h9 := Z3.out; show g ≠ w.heap.size; omega)).trans (Below.heap_setCell _ ⟨w.heap.size, 0, none⟩ _ _ (by have h8 := (OR.lt O6.out).1; have h9 := Z3.out; show g ≠ w.heap.size; omega))) (by have := Z3.out; omega), ((KB.out.setCell (p := ⟨w.heap.size, 0, none⟩) (by first | omega | simp) _).setCell (p := ⟨w.heap.size, 1, none⟩) (by first | omega | simp) _)⟩
    · obtain rfl : k = n := by omega
      have PE : Hid (heapOf4 ls k = (0, out)) := by
        show _ = _
        rw [HP.out, ← UX.out, Nat.sub_self]; rfl
      obtain ⟨k0, kb, _⟩ := KR.out wr KX.out
      have KK := Lib.hid k0; have KB := Lib.hid kb
      have x0 := cell_of_row wr _ 0 _ _ _ RX.out; have x1 := cell_of_row wr _ 1 _ _ _ RX.out
      have y0 := cell_of_row wr _ 0 _ _ _ k0; have y1 := cell_of_row wr _ 1 _ _ _ k0
      have f0 := frozen_of_row wr _ 0 _ _ k0; have f1 := frozen_of_row wr _ 1 _ _ k0
      simp at x0 x1 y0 y1
      clear k0 kb
      go_wp2
      exact bodyPost_ret (results_cell_row rfl _ _ _ _ _ (0, 0) _ rfl (heap_setCell_same _ _ 1 _ _ _ (heap_setCell_same _ _ 0 _ _ _ KK.out)) Try.underlying30 rfl (by kernel_rfl)) rfl ⟨_, _, _, by rw [PE.out]; rfl, by rw [PE.out]; exact OR.mono (OX.out.keepAll fun g e => by subst e; exact (Below.heap_setCell _ ⟨w.heap.size, 1, none⟩ _ _ (by have h8 := (OR.lt OX.out).1; have h9 := Z3.out; show g ≠ w.heap.size; omega)).trans (Below.heap_setCell _ ⟨w.heap.size, 0, none⟩ _ _ (by have h8 := (OR.lt OX.out).1; have h9 := Z3.out; show g ≠ w.heap.size; omega))) (by have := Z3.out; omega), ((KB.out.setCell (p := ⟨w.heap.size, 0, none⟩) (by first | omega | simp) _).setCell (p := ⟨w.heap.size, 1, none⟩) (by first | omega | simp) _)⟩

end Go.Proofs.Ytckapndpefkcgaa
