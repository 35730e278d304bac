/-
  The program's PushHeap and PopHeap: they answer as the model's. No conditions beyond that the heap can be read.
-/
import Derived.BigRegion
import Derived.BigQuiet
import Derived.StillTailTactics
import Derived.Deep.RegionHeld3
import Derived.Laws.Tables
import Derived.Laws.CopyOwn
import Derived.Test.YtckapndpefkcgaaTk
import Derived.Test.YtckapndpefkcgaaImpl4g
import Derived.Test.YtckapndpefkcgaaSpec4f
import Derived.Test.YtckapndpefkcgaaMath4
import Derived.Test.YtckapndpefkcgaaKit4
set_option maxHeartbeats 1000000
namespace Go.Proofs.Ytckapndpefkcgaa
open List renaming getElem_toArray → zz1, getElem_cons_succ → zz2, getElem_cons_zero → zz3, setIfInBounds_toArray → zz4, set_cons_zero → zz5, set_cons_succ → zz6
open Go.RowKit
set_option maxRecDepth 100000

set_option maxHeartbeats 1000000 in
theorem implPushHeap_any (lo hi : Nat) (A : Option Addr) (n c : Nat) (hs : List Int) (p d : Int) (w : World) (hn : n * 16 ≤ 140737488351232) (ex : hs.length = n * 2) (hA : A = none → c = 0) (hcap : n ≤ c) (h : Sl w lo hi A (n * 2) (fun k => .int .i64 (gi hs k))) :
    Calls Try.prog 9 #[.slice A n c, .agg #[.int .i64 p, .int .i64 d]] w (HAns (pushH hs n p d) w) := by
  obtain ⟨w2, hw2⟩ : ∃ w2, w2 = (w.alloc (.cells #[.int .i64 p, .int .i64 d] 26)).alloc (.cells #[.int .i64 0, .slice none 0 0] 30) := ⟨_, rfl⟩
  have k1 : w2.heap[w.heap.size]? = some (.cells #[.int .i64 p, .int .i64 d] 26 (0, 0)) := by rw [hw2]; exact heap_alloc2_old w _ _
  have k2 : w2.heap[w.heap.size + 1]? = some (.cells #[.int .i64 0, .slice none 0 0] 30 (0, 0)) := by rw [hw2]; exact heap_alloc2_new w _ _
  have B2 : Hid (Below w.heap.size w w2) := by rw [hw2]; exact (below_new w _).alloc (by simp) _
  have Z2 : Hid (w2.heap.size = w.heap.size + 2) := by show _ = _; rw [hw2]; simp
  have QS : Hid (∀ W, Below w2.heap.size w2 W → (W.cell? ⟨w.heap.size, 0, none⟩ = some (.int .i64 p) ∧ W.cell? ⟨w.heap.size, 1, none⟩ = some (.int .i64 d)) ∧ (W.cell? ⟨w.heap.size + 1, 0, none⟩ = some (.int .i64 0) ∧ W.cell? ⟨w.heap.size + 1, 1, none⟩ = some (.slice none 0 0)) ∧ W.frozen? ⟨w.heap.size + 1, 0, none⟩ = false ∧ W.frozen? ⟨w.heap.size + 1, 1, none⟩ = false) := fun W hW => by
    have j1 := (hW.block w.heap.size (by have := Z2.out; omega)).trans k1
    have j2 := (hW.block (w.heap.size + 1) (by have := Z2.out; omega)).trans k2
    exact ⟨⟨cell_of_row W _ 0 _ _ _ j1, cell_of_row W _ 1 _ _ _ j1⟩, ⟨cell_of_row W _ 0 _ _ _ j2, cell_of_row W _ 1 _ _ _ j2⟩, frozen_of_row W _ 0 _ _ j2, frozen_of_row W _ 1 _ _ j2⟩
  have K2 := Lib.hid (show ∀ W, Below w2.heap.size w2 W → W.heap[w.heap.size + 1]? = some (.cells #[.int .i64 0, .slice none 0 0] 30 (0, 0)) from fun W hW => (hW.block (w.heap.size + 1) (by have := Z2.out; omega)).trans k2)
  have H2 := Lib.hid (h.lt.below B2.out (Nat.min_le_right _ _))
  have EX := Lib.hid ex
  have HA := Lib.hid hA
  have HC := Lib.hid hcap
  have HW2 := Lib.hid hw2
  have BB : Hid (∀ W, Below w2.heap.size w2 W → Below w.heap.size w W) := fun W hW => B2.out.trans (hW.mono (by have := Z2.out; omega))
  clear h ex hA hcap k1 k2 hw2
  obtain ⟨v, hv⟩ : ∃ v, v = hf hs n := ⟨_, rfl⟩
  go_enter Try.func9, Try.ntmps9
  go_upto_region 1 with (fail)
  rw [← HW2.out]
  go_wp2_with fail
  refine (implHeapFault_any _ _ A n c hs w2 hn EX.out HA.out HC.out H2.out).mono ?_
  rw [← hv]
  rintro e w3 ⟨rfl, hb⟩
  have R3 := Lib.hid hb
  obtain ⟨⟨x0, x1⟩, ⟨y0, y1⟩, f0, f1⟩ := QS.out w3 R3.out
  clear hb
  by_cases h0 : v = 0
  · subst h0
    have H0 := Lib.hid hv.symm
    clear hv
    rcases ho : okE p d with _ | _
    · have PE : Hid (pushH hs n p d = (3, [])) := by show _ = _; unfold pushH; rw [if_neg (by simp [H0.out]), if_pos ho]
      go_wp2_with fail
      refine (isEntry_any p d w3).mono ?_
      rw [ho]
      rintro e w4 ⟨rfl, hb⟩
      have R4 := Lib.hid (R3.out.trans (hb.mono R3.out.size))
      clear ho hb x0 x1 y0 y1 f0 f1
      obtain ⟨⟨x0, x1⟩, ⟨y0, y1⟩, f0, f1⟩ := QS.out w4 R4.out
      go_wp2
      exact bodyPost_ret (results_cell_row rfl _ _ _ _ _ (0, 0) _ rfl (heap_setCell_same _ _ 1 _ _ _ (heap_setCell_same _ _ 0 _ _ _ (K2.out _ R4.out))) Try.underlying30 rfl (by kernel_rfl)) rfl (hans_code PE.out (((BB.out _ R4.out).setCell (p := ⟨w.heap.size + 1, 0, none⟩) (by first | omega | simp) _).setCell (p := ⟨w.heap.size + 1, 1, none⟩) (by first | omega | simp) _))
    · go_wp2_with fail
      refine (isEntry_any p d w3).mono ?_
      rw [ho]
      rintro e w4 ⟨rfl, hb⟩
      have HO := Lib.hid ho
      have R4 := Lib.hid (R3.out.trans (hb.mono R3.out.size))
      clear ho hb x0 x1 y0 y1 f0 f1
      obtain ⟨⟨x0, x1⟩, ⟨y0, y1⟩, f0, f1⟩ := QS.out w4 R4.out
      go_wp2_with fail
      refine (hasId_any _ _ A n c hs d w4 hn (H2.out.below R4.out (by have := B2.out.size; omega))).mono ?_
      rintro e w5 ⟨rfl, hb⟩
      have R5 := Lib.hid (R4.out.trans (hb.mono R4.out.size))
      clear hb x0 x1 y0 y1 f0 f1
      obtain ⟨⟨x0, x1⟩, ⟨y0, y1⟩, f0, f1⟩ := QS.out w5 R5.out
      rcases ho : hasE hs n d with _ | _
      · have HH := Lib.hid ho
        clear ho
        have N12 := Lib.hid (hf_small H0.out)
        by_cases hn12 : n = 12
        · have PE : Hid (pushH hs n p d = (8, [])) := by show _ = _; unfold pushH; rw [if_neg (by simp [H0.out]), if_neg (by rw [HO.out]; decide), if_neg (by rw [HH.out]; decide), if_pos hn12]
          subst hn12
          go_wp2
          exact bodyPost_ret (results_cell_row rfl _ _ _ _ _ (0, 0) _ rfl (heap_setCell_same _ _ 1 _ _ _ (heap_setCell_same _ _ 0 _ _ _ (K2.out _ R5.out))) Try.underlying30 rfl (by kernel_rfl)) rfl (hans_code PE.out (((BB.out _ R5.out).setCell (p := ⟨w.heap.size + 1, 0, none⟩) (by first | omega | simp) _).setCell (p := ⟨w.heap.size + 1, 1, none⟩) (by first | omega | simp) _))
        · have PE : Hid (pushH hs n p d = (0, push4 hs n p d)) := by show _ = _; unfold pushH; rw [if_neg (by simp [H0.out]), if_neg (by rw [HO.out]; decide), if_neg (by rw [HH.out]; decide), if_neg hn12]
          have hn13 : ¬ (n : Int) = 12 := by omega
          go_wp2_with fail
          refine (heapWith_any _ _ A n c hs w5 hn EX.out HA.out (H2.out.below R5.out (by have := B2.out.size; omega))).mono ?_
          rintro e w6 ⟨hb0, A', c', rfl, hh, hb⟩
          have H6 := Lib.hid hh
          have R6 := Lib.hid (R5.out.trans (hb.mono R5.out.size))
          clear hh hb x0 x1 y0 y1 f0 f1
          obtain ⟨⟨x0, x1⟩, ⟨y0, y1⟩, f0, f1⟩ := QS.out w6 R6.out
          go_wp2_with fail
          refine (push_any _ hb0 A' n c' hs p d w6 N12.out H6.out).mono ?_
          rintro e w7 ⟨rfl, A2, c2, hh, hb⟩
          have H7 := Lib.hid hh
          have R7 := Lib.hid (R6.out.trans ((hb.mono (show w2.heap.size ≤ w5.heap.size from R5.out.size))))
          obtain ⟨q0, q1⟩ := hh.cells
          have Z5 := Lib.hid (show w.heap.size + 2 ≤ w5.heap.size by have := Z2.out; have := R5.out.size; omega)
          clear hh hb x0 x1 y0 y1 f0 f1
          obtain ⟨⟨x0, x1⟩, ⟨y0, y1⟩, f0, f1⟩ := QS.out w7 R7.out
          go_wp2
          exact bodyPost_ret (results_cell_row rfl _ _ _ _ _ (0, 0) _ rfl (heap_setCell_same _ _ 1 _ _ _ (heap_setCell_same _ _ 0 _ _ _ (K2.out _ R7.out))) Try.underlying30 rfl (by kernel_rfl)) rfl ⟨_, _, _, by rw [PE.out]; rfl, by rw [PE.out]; exact OR.mono (H7.out.own.keepAll fun g e => by subst e; exact (Below.heap_setCell _ ⟨w.heap.size + 1, 1, none⟩ _ _ (by have h8 := (OR.lt H7.out.own).1; have h9 := Z5.out; show g ≠ w.heap.size + 1; omega)).trans (Below.heap_setCell _ ⟨w.heap.size + 1, 0, none⟩ _ _ (by have h8 := (OR.lt H7.out.own).1; have h9 := Z5.out; show g ≠ w.heap.size + 1; omega))) (by have := Z5.out; omega), (((BB.out _ R7.out).setCell (p := ⟨w.heap.size + 1, 0, none⟩) (by first | omega | simp) _).setCell (p := ⟨w.heap.size + 1, 1, none⟩) (by first | omega | simp) _)⟩
      · have PE : Hid (pushH hs n p d = (6, [])) := by show _ = _; unfold pushH; rw [if_neg (by simp [H0.out]), if_neg (by rw [HO.out]; decide), if_pos ho]
        clear ho
        go_wp2
        exact bodyPost_ret (results_cell_row rfl _ _ _ _ _ (0, 0) _ rfl (heap_setCell_same _ _ 1 _ _ _ (heap_setCell_same _ _ 0 _ _ _ (K2.out _ R5.out))) Try.underlying30 rfl (by kernel_rfl)) rfl (hans_code PE.out (((BB.out _ R5.out).setCell (p := ⟨w.heap.size + 1, 0, none⟩) (by first | omega | simp) _).setCell (p := ⟨w.heap.size + 1, 1, none⟩) (by first | omega | simp) _))
  · have PE : Hid (pushH hs n p d = (v, [])) := by show _ = _; unfold pushH; rw [if_pos (by rw [← hv]; exact h0), ← hv]
    have hv0 : (v != 0) = true := by simp [h0]
    clear hv
    go_wp2
    exact bodyPost_ret (results_cell_row rfl _ _ _ _ _ (0, 0) _ rfl (heap_setCell_same _ _ 1 _ _ _ (heap_setCell_same _ _ 0 _ _ _ (K2.out _ R3.out))) Try.underlying30 rfl (by kernel_rfl)) rfl (hans_code PE.out (((BB.out _ R3.out).setCell (p := ⟨w.heap.size + 1, 0, none⟩) (by first | omega | simp) _).setCell (p := ⟨w.heap.size + 1, 1, none⟩) (by first | omega | simp) _))

set_option maxHeartbeats 1000000 in
theorem implPopHeap_any (lo hi : Nat) (A : Option Addr) (n c : Nat) (hs : List Int) (w : World) (hn : n * 16 ≤ 140737488351232) (ex : hs.length = n * 2) (hA : A = none → c = 0) (hcap : n ≤ c) (h : Sl w lo hi A (n * 2) (fun k => .int .i64 (gi hs k))) :
    Calls Try.prog 11 #[.slice A n c] w (EAns (popH hs n) w) := by
  obtain ⟨w2, hw2⟩ : ∃ w2, w2 = w.alloc (.cells #[.int .i64 0, .int .i64 0, .int .i64 0, .slice none 0 0] 34) := ⟨_, rfl⟩
  have k2 : w2.heap[w.heap.size]? = some (.cells #[.int .i64 0, .int .i64 0, .int .i64 0, .slice none 0 0] 34 (0, 0)) := by rw [hw2]; exact heap_alloc_new w _
  have B2 : Hid (Below w.heap.size w w2) := by rw [hw2]; exact below_new w _
  have Z2 : Hid (w2.heap.size = w.heap.size + 1) := by show _ = _; rw [hw2]; simp
  have K2 := Lib.hid (show ∀ W, Below w2.heap.size w2 W → W.heap[w.heap.size]? = some (.cells #[.int .i64 0, .int .i64 0, .int .i64 0, .slice none 0 0] 34 (0, 0)) from fun W hW => (hW.block w.heap.size (by have := Z2.out; omega)).trans k2)
  have H2 := Lib.hid (h.lt.below B2.out (Nat.min_le_right _ _))
  have EX := Lib.hid ex
  have HA := Lib.hid hA
  have HC := Lib.hid hcap
  have HW2 := Lib.hid hw2
  have BB : Hid (∀ W, Below w2.heap.size w2 W → Below w.heap.size w W) := fun W hW => B2.out.trans (hW.mono (by have := Z2.out; omega))
  clear h ex hA hcap k2 hw2
  obtain ⟨v, hv⟩ : ∃ v, v = hf hs n := ⟨_, rfl⟩
  go_enter Try.func11, Try.ntmps11
  go_upto_region 1 with (fail)
  rw [← HW2.out]
  go_wp2_with fail
  refine (implHeapFault_any _ _ A n c hs w2 hn EX.out HA.out HC.out H2.out).mono ?_
  rw [← hv]
  rintro e w3 ⟨rfl, hb⟩
  have R3 := Lib.hid hb
  clear hb
  have k3 := K2.out w3 R3.out
  have y0 := cell_of_row w3 _ 0 _ _ _ k3; have y1 := cell_of_row w3 _ 1 _ _ _ k3; have y2 := cell_of_row w3 _ 2 _ _ _ k3; have y3 := cell_of_row w3 _ 3 _ _ _ k3
  have f0 := frozen_of_row w3 _ 0 _ _ k3; have f1 := frozen_of_row w3 _ 1 _ _ k3; have f2 := frozen_of_row w3 _ 2 _ _ k3; have f3 := frozen_of_row w3 _ 3 _ _ k3
  simp at y0 y1 y2 y3
  clear k3
  by_cases h0 : v = 0
  · subst h0
    have H0 := Lib.hid hv.symm
    clear hv
    have N12 := Lib.hid (hf_small H0.out)
    rcases n with _ | m
    · have PE : Hid (popH hs 0 = (4, 0, 0, [])) := by show _ = _; unfold popH; rw [if_neg (by simp [H0.out]), if_pos rfl]
      go_wp2
      exact bodyPost_ret (results_cell_row rfl _ _ _ _ _ (0, 0) _ rfl (heap_setCell_same _ _ 3 _ _ _ (heap_setCell_same _ _ 2 _ _ _ (heap_setCell_same _ _ 1 _ _ _ (heap_setCell_same _ _ 0 _ _ _ (K2.out _ R3.out))))) Try.underlying34 rfl (by kernel_rfl)) rfl (eans_code PE.out (((((BB.out _ R3.out).setCell (p := ⟨w.heap.size, 0, none⟩) (by first | omega | simp) _).setCell (p := ⟨w.heap.size, 1, none⟩) (by first | omega | simp) _).setCell (p := ⟨w.heap.size, 2, none⟩) (by first | omega | simp) _).setCell (p := ⟨w.heap.size, 3, none⟩) (by first | omega | simp) _))
    · have PE : Hid (popH hs (m + 1) = (0, gi hs 0, gi hs 1, pop4 hs m)) := by show _ = _; unfold popH; rw [if_neg (by simp [H0.out]), if_neg (by omega)]; rfl
      have hm0 : ¬ ((m : Int) + 1 = 0) := by omega
      clear y0 y1 y2 y3 f0 f1 f2 f3
      go_wp2_with fail
      refine (heapWith_any _ _ A (m + 1) c hs w3 hn EX.out HA.out (H2.out.below R3.out (by have := B2.out.size; omega))).mono ?_
      rintro e w5 ⟨hb0, A', c', rfl, hh, hb⟩
      obtain ⟨g, rfl, hg1, _⟩ := OR.pos hh.own (by omega)
      have H5 := Lib.hid hh
      have R5 := Lib.hid (R3.out.trans (hb.mono R3.out.size))
      have Z5 := Lib.hid (show w.heap.size + 1 ≤ w3.heap.size ∧ w3.heap.size ≤ hb0 ∧ w3.heap.size ≤ g ∧ hb0 < w5.heap.size ∧ w3.heap.size ≤ w5.heap.size by have := Z2.out; have := R3.out.size; have := hh.hb0; have := hh.lt; have := hb.size; omega)
      clear hh hb hg1
      go_wp2_with fail
      refine (pop_any _ hb0 g m c' hs w5 (by have := N12.out; omega) H5.out).mono ?_
      rintro e w7 ⟨rfl, hh, hkk⟩
      have R7 := Lib.hid (R5.out.trans (hkk.below (show w2.heap.size ≤ w5.heap.size from R5.out.size) (fun b hb' => by have := Z5.out; have := Z2.out; have := R3.out.size; simp at hb'; omega)))
      have S7 := Lib.hid (show w5.heap.size ≤ w7.heap.size from hkk.1.size)
      obtain ⟨w6, hw6⟩ : ∃ w6, w6 = w7.alloc (.cells #[.int .i64 (gi hs 0), .int .i64 (gi hs 1)] 26) := ⟨_, rfl⟩
      obtain ⟨b5, hb5⟩ : ∃ b5, b5 = w7.heap.size := ⟨_, rfl⟩
      have k6 : w6.heap[b5]? = some (.cells #[.int .i64 (gi hs 0), .int .i64 (gi hs 1)] 26 (0, 0)) := by rw [hw6, hb5]; exact heap_alloc_new w7 _
      have H6 := Lib.hid (show HB w6 w3.heap.size hb0 (some ⟨g, 0, none⟩) m c' (pop4 hs m) by rw [hw6]; exact hh.below (below_new w7 _) (Nat.le_refl _))
      have R6 := Lib.hid (show Below w2.heap.size w2 w6 by rw [hw6]; exact R7.out.alloc R7.out.size _)
      have L5 := Lib.hid (show w5.heap.size ≤ b5 ∧ b5 < w6.heap.size by rw [hb5]; exact ⟨S7.out, by rw [hw6]; simp⟩)
      have K6 := Lib.hid k6
      have HW6 := Lib.hid hw6; have HB5 := Lib.hid hb5
      clear hh hkk hw6 hb5 k6
      have E0 : Hid (∀ W, Below w6.heap.size w6 W → (W.cell? ⟨b5, 0, none⟩ = some (.int .i64 (gi hs 0)) ∧ W.cell? ⟨b5, 1, none⟩ = some (.int .i64 (gi hs 1)) ∧ W.cell? ⟨hb0, 0, none⟩ = some (.slice (some ⟨g, 0, none⟩) m c'))) := fun W hW => by
        have k := (hW.block b5 L5.out.2).trans K6.out
        exact ⟨cell_of_row W _ 0 _ _ _ k, cell_of_row W _ 1 _ _ _ k, (H6.out.below hW (Nat.le_refl _)).cells.1⟩
      have R0 : Hid (∀ W, Below w6.heap.size w6 W → W.heap[w.heap.size]? = some (.cells #[.int .i64 0, .int .i64 0, .int .i64 0, .slice none 0 0] 34 (0, 0))) := fun W hW => K2.out W (R6.out.trans (hW.mono R6.out.size))
      have Z5 := Lib.hid (show b5 ≠ w.heap.size ∧ hb0 ≠ w.heap.size ∧ g ≠ w.heap.size ∧ w.heap.size ≤ w3.heap.size by have := Z5.out; have := L5.out; omega)
      obtain ⟨e0, e1, q0⟩ := E0.out w6 (Below.refl _ _)
      go_upto_region 8 with (fail)
      rw [← HW6.out, ← HB5.out]
      clear HW6 HB5
      refine wp_region_held_drew (S := fun W => (W.cell? ⟨b5, 0, none⟩ = some (.int .i64 (gi hs 0)) ∧ W.cell? ⟨b5, 1, none⟩ = some (.int .i64 (gi hs 1)) ∧ W.cell? ⟨hb0, 0, none⟩ = some (.slice (some ⟨g, 0, none⟩) m c'))) (by kernel_rfl) (⟨e0, e1, q0⟩) (fun hHeld => ?_)
      obtain ⟨v0, hv0⟩ : ∃ v0, v0 = w6.drew := ⟨_, rfl⟩
      have BL0 : Hid (Below w6.heap.size w6 v0) := by rw [hv0]; exact Below.drew (Below.refl _ _)
      rw [← hv0] at hHeld ⊢
      clear hv0
      refine tkH 0 ?_ rfl ?_ hHeld ?_; rotate_left; (intro w hSw; (try dsimp only at hSw); go_simp; try with_reducible rfl); try simp only [Act.put, zz1, zz2, zz3, zz4, zz5, zz6]
      refine tkH 1 ?_ rfl ?_ hHeld ?_; rotate_left; (intro w hSw; (try dsimp only at hSw); go_simp; try with_reducible rfl); try simp only [Act.put, zz1, zz2, zz3, zz4, zz5, zz6]
      refine tkH 2 ?_ rfl ?_ hHeld ?_; rotate_left; (intro w hSw; (try dsimp only at hSw); go_simp; try with_reducible rfl); try simp only [Act.put, zz1, zz2, zz3, zz4, zz5, zz6]
      refine tkH 3 ?_ rfl ?_ hHeld ?_; rotate_left; (intro w hSw; (try dsimp only at hSw); go_simp; try with_reducible rfl); try simp only [Act.put, zz1, zz2, zz3, zz4, zz5, zz6]
      refine tkH 4 ?_ rfl ?_ hHeld ?_; rotate_left; (intro w hSw; (try dsimp only at hSw); go_simp; try with_reducible rfl); try simp only [Act.put, zz1, zz2, zz3, zz4, zz5, zz6]
      refine tkH 5 ?_ rfl ?_ hHeld ?_; rotate_left; (intro w hSw; (try dsimp only at hSw); go_simp; try with_reducible rfl); try simp only [Act.put, zz1, zz2, zz3, zz4, zz5, zz6]
      refine wpAnyH_ready (rs := [6]) (by kernel_rfl) (by simp) ?_
      refine AllReadyH.cons (o := _) rfl (fun K0 hK0 => ?_) AllReadyH.nil
      clear hHeld
      rw [if_pos (by rfl)]
      refine wp_store_row 34 _ _ rfl (w.heap.size) _ rfl rfl 34 _ (R0.out _ BL0.out) (by kernel_rfl) rfl (by simp [Value.oneCell']) ?_
      refine hK0.out _ _ (⟨cell_setRow_far ((E0.out _ BL0.out).1) (by have := Z5.out; omega), cell_setRow_far ((E0.out _ BL0.out).2.1) (by have := Z5.out; omega), cell_setRow_far ((E0.out _ BL0.out).2.2) (by have := Z5.out; omega)⟩) (fun hHeld => ?_)
      clear hK0 K0
      try simp only [Act.put, zz1, zz2, zz3, zz4, zz5, zz6]
      refine wpAnyH_done (by kernel_rfl) ?_ _
      go_wp2_with fail
      exact bodyPost_ret (results_cell_row rfl _ _ _ _ _ (0, 0) _ rfl (setRow_heap _ _ _ _ _ _ (R0.out _ BL0.out)) Try.underlying34 rfl (by kernel_rfl)) rfl ⟨_, _, _, by rw [PE.out], by rw [PE.out]; exact (OR.mono ((H6.out.own.below BL0.out (Nat.le_refl _)).keepAll fun g' e => by injection e with e; injection e with e; subst e; exact setRow_other _ _ _ _ (by have := Z5.out; omega)) Z5.out.2.2.2), below_setRow (BB.out _ (R6.out.trans (BL0.out.mono R6.out.size))) (by omega) _⟩
  · have PE : Hid (popH hs n = (v, 0, 0, [])) := by show _ = _; unfold popH; rw [if_pos (by rw [← hv]; exact h0), ← hv]
    have hv0 : (v != 0) = true := by simp [h0]
    clear hv
    go_wp2
    exact bodyPost_ret (results_cell_row rfl _ _ _ _ _ (0, 0) _ rfl (heap_setCell_same _ _ 3 _ _ _ (heap_setCell_same _ _ 2 _ _ _ (heap_setCell_same _ _ 1 _ _ _ (heap_setCell_same _ _ 0 _ _ _ (K2.out _ R3.out))))) Try.underlying34 rfl (by kernel_rfl)) rfl (eans_code PE.out (((((BB.out _ R3.out).setCell (p := ⟨w.heap.size, 0, none⟩) (by first | omega | simp) _).setCell (p := ⟨w.heap.size, 1, none⟩) (by first | omega | simp) _).setCell (p := ⟨w.heap.size, 2, none⟩) (by first | omega | simp) _).setCell (p := ⟨w.heap.size, 3, none⟩) (by first | omega | simp) _))

end Go.Proofs.Ytckapndpefkcgaa
