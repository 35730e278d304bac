/-
  The model's HeapOf and SortedOf. No conditions beyond that the list can be read.
-/
import Derived.Laws.AppendOwnNone
import Derived.BigRegion
import Derived.BigQuiet
import Derived.StillTailTactics
import Derived.Deep.RegionHeld3
import Derived.Test.YtckapndpefkcgaaKit4
import Derived.Test.YtckapndpefkcgaaMath4
import Derived.Test.YtckapndpefkcgaaSpec4f
import Derived.Test.YtckapndpefkcgaaOwn4
set_option maxHeartbeats 1000000
namespace Go.Proofs.Ytckapndpefkcgaa
open Go.RowKit
set_option maxRecDepth 100000

theorem hof_go {ls out : List Int} {k i m : Nat} (hl : out.length = m * 2) (h : (pushH out m (gi ls (i * 2)) (gi ls (i * 2 + 1))).1 = 0) : hof ls (k + 1) i out = hof ls k (i + 1) (pushH out m (gi ls (i * 2)) (gi ls (i * 2 + 1))).2 := by
  have e : out.length / 2 = m := by omega
  rw [hof, e, if_neg (by simp [h])]
theorem hof_no {ls out : List Int} {k i m : Nat} (hl : out.length = m * 2) (h : (pushH out m (gi ls (i * 2)) (gi ls (i * 2 + 1))).1 ≠ 0) : hof ls (k + 1) i out = ((pushH out m (gi ls (i * 2)) (gi ls (i * 2 + 1))).1, []) := by
  have e : out.length / 2 = m := by omega
  rw [hof, e, if_pos h]

set_option maxHeartbeats 1000000 in
theorem specHeapOf_any (lo hi : Nat) (A : Option Addr) (n c : Nat) (ls : List Int) (w : World) (hn : n * 16 ≤ 140737488351232) (h : Sl w lo hi A (n * 2) (fun k => .int .i64 (gi ls k))) :
    Calls Try.prog 19 #[.slice A n c] w (HAns (heapOf4 ls n) w) := by
  obtain ⟨w2, hw2⟩ : ∃ w2, w2 = w.alloc (.cells #[.int .i64 0, .slice none 0 0] 30) := ⟨_, rfl⟩
  have k2 : w2.heap[w.heap.size]? = some (.cells #[.int .i64 0, .slice none 0 0] 30 (0, 0)) := by rw [hw2]; exact heap_alloc_new w _
  have B2 : Hid (Below w.heap.size w w2) := by rw [hw2]; exact below_new w _
  have Z2 : Hid (w2.heap.size = w.heap.size + 1) := by show _ = _; rw [hw2]; simp
  have K2 := Lib.hid (show ∀ W, Below w2.heap.size w2 W → W.heap[w.heap.size]? = some (.cells #[.int .i64 0, .slice none 0 0] 30 (0, 0)) from fun W hW => (hW.block w.heap.size (by have := Z2.out; omega)).trans k2)
  have QS : Hid (∀ W, Below w2.heap.size w2 W → (W.cell? ⟨w.heap.size, 0, none⟩ = some (.int .i64 0) ∧ W.cell? ⟨w.heap.size, 1, none⟩ = some (.slice none 0 0)) ∧ W.frozen? ⟨w.heap.size, 0, none⟩ = false ∧ W.frozen? ⟨w.heap.size, 1, none⟩ = false) := fun W hW => by
    have j := K2.out W hW
    exact ⟨⟨cell_of_row W _ 0 _ _ _ j, cell_of_row W _ 1 _ _ _ j⟩, frozen_of_row W _ 0 _ _ j, frozen_of_row W _ 1 _ _ j⟩
  have H2 := Lib.hid (h.lt.below B2.out (Nat.min_le_right _ _))
  have HW2 := Lib.hid hw2
  have BB : Hid (∀ W, Below w2.heap.size w2 W → Below w.heap.size w W) := fun W hW => B2.out.trans (hW.mono (by have := Z2.out; omega))
  clear h k2 hw2
  by_cases h12 : 12 < n
  · have PE : Hid (heapOf4 ls n = (2, [])) := by show _ = _; unfold heapOf4; rw [if_pos h12]
    have hz : (12 : Int) < (n : Int) := by omega
    go_enter Try.func19, Try.ntmps19
    go_upto_region 1 with (fail)
    rw [← HW2.out]
    obtain ⟨⟨y0, y1⟩, f0, f1⟩ := QS.out w2 (Below.refl _ _)
    go_wp2
    exact bodyPost_ret (results_cell_row rfl _ _ _ _ _ (0, 0) _ rfl (heap_setCell_same _ _ 1 _ _ _ (heap_setCell_same _ _ 0 _ _ _ (K2.out _ (Below.refl _ _)))) Try.underlying30 rfl (by kernel_rfl)) rfl (hans_code PE.out ((B2.out.setCell (p := ⟨w.heap.size, 0, none⟩) (by first | omega | simp) _).setCell (p := ⟨w.heap.size, 1, none⟩) (by first | omega | simp) _))
  have hz : ¬ (12 : Int) < (n : Int) := by omega
  have HP : Hid (heapOf4 ls n = hof ls n 0 []) := by show _ = _; unfold heapOf4; rw [if_neg h12]
  go_enter Try.func19, Try.ntmps19
  go_upto_region 1 with (fail)
  rw [← HW2.out]
  clear HW2
  go_upto_region 4 with (fail)
  obtain ⟨w3, hw3⟩ : ∃ w3, w3 = w2.alloc (.cells #[] 26) := ⟨_, rfl⟩
  rw [← hw3]
  have O3 := Lib.hid (show OR 26 2 w3 w2.heap.size (some ⟨w2.heap.size, 0, none⟩) 0 0 [] by rw [hw3]; exact OR.empty w2 (Nat.le_refl _))
  have R3 := Lib.hid (show Below w2.heap.size w2 w3 by rw [hw3]; exact below_new w2 _)
  clear hw3
  go_wp2_with fail
  go_loopw [3, 4] (fun o i wr => ∃ (k m : Nat) (A' : Option Addr) (c' : Nat) (out : List Int), k ≤ n ∧ m ≤ 12 ∧ i = .int .i64 k ∧ o = .slice A' m c' ∧ OR 26 2 wr w2.heap.size A' m c' out ∧ hof ls (n - k) k out = hof ls n 0 [] ∧ Below w2.heap.size w2 wr) (fun _ i _ => n - (intOf i).toNat)
  case atStart => exact ⟨0, 0, _, _, [], by omega, by omega, rfl, rfl, O3.out, rfl, R3.out⟩
  case round =>
    obtain ⟨k, m, A', c', out, hk, hm, rfl, rfl, ho, hu, hb⟩ := hrel
    have OX := Lib.hid ho
    have UX := Lib.hid hu
    have RX := Lib.hid hb
    clear ho hu hb O3 R3
    by_cases hlt : k < n
    · have HX := Lib.hid (H2.out.below RX.out (by have := B2.out.size; omega))
      obtain ⟨b, off, rfl, b1, b2, hcc⟩ := HX.out.at_ (show k * 2 < n * 2 by omega)
      have c0 : wr.cell? ⟨b, off + k * 2, none⟩ = some (.int .i64 (gi ls (k * 2))) := hcc (k * 2) (by omega)
      have c1 : wr.cell? ⟨b, off + k * 2 + 1, none⟩ = some (.int .i64 (gi ls (k * 2 + 1))) := hcc (k * 2 + 1) (by omega)
      have CP := Lib.hid (specPushHeap_any w2.heap.size wr.heap.size A' m c' out (gi ls (k * 2)) (gi ls (k * 2 + 1)) wr (by omega) OX.out.len (fun e => by subst e; exact (OR.nil0 OX.out).2) OX.out.sl0)
      clear hcc HX
      go_wp2_with fail
      refine CP.out.mono ?_
      rintro e w4 ⟨A2, n2, c2, rfl, ho, hb⟩
      have O4 := Lib.hid (OR.mono ho (show w2.heap.size ≤ wr.heap.size from RX.out.size))
      have R4 := Lib.hid (RX.out.trans (hb.mono RX.out.size))
      clear ho hb CP
      obtain ⟨w5, hw5⟩ : ∃ w5, w5 = w4.alloc (.cells #[.int .i64 (pushH out m (gi ls (k * 2)) (gi ls (k * 2 + 1))).1, .slice A2 n2 c2] 30) := ⟨_, rfl⟩
      obtain ⟨j, hj1, hj2, hj3⟩ := pushH_len out m (gi ls (k * 2)) (gi ls (k * 2 + 1)) OX.out.len
      have JL := Lib.hid (show n2 ≤ 12 by have := O4.out.len; omega)
      have LO := Lib.hid OX.out.len
      obtain ⟨q, hq⟩ : ∃ q, q = (pushH out m (gi ls (k * 2)) (gi ls (k * 2 + 1))).1 := ⟨_, rfl⟩
      rw [← hq] at hw5 ⊢
      have HQ := Lib.hid hq
      have X5 := Lib.hid (show w5.heap[w4.heap.size]? = some (.cells #[.int .i64 q, .slice A2 n2 c2] 30 (0, 0)) by rw [hw5]; exact heap_alloc_new w4 _)
      have B45 := Lib.hid (show Below w4.heap.size w4 w5 by rw [hw5]; exact below_new w4 _)
      have O5 := Lib.hid (O4.out.below B45.out (Nat.le_refl _))
      have R5 := Lib.hid (R4.out.trans (B45.out.mono R4.out.size))
      have HW5 := Lib.hid hw5
      have x0 := cell_of_row w5 _ 0 _ _ _ X5.out
      have x1 := cell_of_row w5 _ 1 _ _ _ X5.out
      simp at x0 x1
      obtain ⟨⟨y0, y1⟩, f0, f1⟩ := QS.out w5 R5.out
      clear hw5 hj1 hj2 hj3 O4 B45 R4 OX c0 c1 hq
      by_cases hq0 : q = 0
      · subst hq0
        have UE : Hid (hof ls (n - (k + 1)) (k + 1) (pushH out m (gi ls (k * 2)) (gi ls (k * 2 + 1))).2 = hof ls n 0 []) := by
          show _ = _
          rw [← UX.out, show n - k = (n - (k + 1)) + 1 by omega, hof_go LO.out HQ.out.symm]
        go_upto_region 8 with (fail)
        rw [← HW5.out]
        clear HW5
        go_wp2
        go_roundw
        case rel => exact ⟨k + 1, n2, A2, c2, _, by omega, JL.out, by go_num, rfl, O5.out, UE.out, R5.out⟩
        case measure => simp [intOf]; omega
      · have PE : Hid (heapOf4 ls n = (q, [])) := by
          show _ = _
          rw [HP.out, ← UX.out, show n - k = (n - (k + 1)) + 1 by omega, hof_no LO.out (HQ.out ▸ hq0), ← HQ.out]
        have hq1 : (q != 0) = true := by simp [hq0]
        go_upto_region 8 with (fail)
        rw [← HW5.out]
        clear HW5
        go_wp2
        exact bodyPost_ret (results_cell_row rfl _ _ _ _ _ (0, 0) _ rfl (heap_setCell_same _ _ 1 _ _ _ (heap_setCell_same _ _ 0 _ _ _ (K2.out _ R5.out))) Try.underlying30 rfl (by kernel_rfl)) rfl (hans_code PE.out (((BB.out _ R5.out).setCell (p := ⟨w.heap.size, 0, none⟩) (by first | omega | simp) _).setCell (p := ⟨w.heap.size, 1, none⟩) (by first | omega | simp) _))
    · obtain rfl : k = n := by omega
      have PE : Hid (heapOf4 ls k = (0, out)) := by
        show _ = _
        rw [HP.out, ← UX.out, Nat.sub_self]; rfl
      obtain ⟨⟨y0, y1⟩, f0, f1⟩ := QS.out wr RX.out
      go_wp2
      exact bodyPost_ret (results_cell_row rfl _ _ _ _ _ (0, 0) _ rfl (heap_setCell_same _ _ 1 _ _ _ (heap_setCell_same _ _ 0 _ _ _ (K2.out _ RX.out))) Try.underlying30 rfl (by kernel_rfl)) rfl ⟨_, _, _, by rw [PE.out]; rfl, by rw [PE.out]; exact OR.mono (OX.out.keepAll fun g e => by subst e; exact (Below.heap_setCell _ ⟨w.heap.size, 1, none⟩ _ _ (by have h8 := (OR.lt OX.out).1; have h9 := Z2.out; show g ≠ w.heap.size; omega)).trans (Below.heap_setCell _ ⟨w.heap.size, 0, none⟩ _ _ (by have h8 := (OR.lt OX.out).1; have h9 := Z2.out; show g ≠ w.heap.size; omega))) (by have := Z2.out; omega), (((BB.out _ RX.out).setCell (p := ⟨w.heap.size, 0, none⟩) (by first | omega | simp) _).setCell (p := ⟨w.heap.size, 1, none⟩) (by first | omega | simp) _)⟩

end Go.Proofs.Ytckapndpefkcgaa
