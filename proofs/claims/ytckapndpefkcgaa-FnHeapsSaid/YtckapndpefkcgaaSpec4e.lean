/-
  The model's PushHeap, PopHeap, HeapOf and SortedOf. No conditions beyond that the heap can be read.
-/
import Derived.Laws.AppendOwnNone
import Derived.BigRegion
import Derived.BigQuiet
import Derived.StillTailTactics
import Derived.Deep.RegionHeld3
import Derived.Laws.Tables
import Derived.Laws.CopyOwn
import Derived.Test.YtckapndpefkcgaaTk
import Derived.Test.YtckapndpefkcgaaKit4
import Derived.Test.YtckapndpefkcgaaMath4
import Derived.Test.YtckapndpefkcgaaSpec4d
import Derived.Test.YtckapndpefkcgaaOwn4
set_option maxHeartbeats 1000000
namespace Go.Proofs.Ytckapndpefkcgaa
open List renaming getElem_toArray → zz1, getElem_cons_succ → zz2, getElem_cons_zero → zz3, setIfInBounds_toArray → zz4, set_cons_zero → zz5, set_cons_succ → zz6
open Go.RowKit
set_option maxRecDepth 100000

theorem cell_setRow_far {w : World} {g b j : Nat} {cs : Array Value} {v : Value} (h : w.cell? ⟨b, j, none⟩ = some v) (hne : b ≠ g) : (w.setRow g cs).cell? ⟨b, j, none⟩ = some v :=
  (World.cell?_of_block (setRow_other w g b cs hne)).trans h
def HAns (r : Int × List Int) (w : World) (e : Ending) (w' : World) : Prop :=
  ∃ A n c, e = .returned (.agg #[.int .i64 r.1, .slice A n c]) ∧ OR 26 2 w' w.heap.size A n c r.2 ∧ Below w.heap.size w w'
theorem hans_code {q : Int} {r : Int × List Int} {w w' : World} (hr : r = (q, [])) (hb : Below w.heap.size w w') : HAns r w (.returned (.agg #[.int .i64 q, .slice none 0 0])) w' := by
  subst hr
  exact ⟨none, 0, 0, rfl, OR.void _ _, hb⟩

set_option maxHeartbeats 1000000 in
theorem specPushHeap_any (lo hi : Nat) (A : Option Addr) (n c : Nat) (hs : List Int) (p d : Int) (w : World) (hn : n * 16 ≤ 140737488351232) (ex : hs.length = n * 2) (hA : A = none → c = 0) (h : Sl w lo hi A (n * 2) (fun k => .int .i64 (gi hs k))) :
    Calls Try.prog 17 #[.slice A n c, .agg #[.int .i64 p, .int .i64 d]] w (HAns (pushH hs n p d) w) := by
  obtain ⟨w2, hw2⟩ : ∃ w2, w2 = (w.alloc (.cells #[.int .i64 p, .int .i64 d] 26)).alloc (.cells #[.int .i64 0, .slice none 0 0] 30) := ⟨_, rfl⟩
  have k1 : w2.heap[w.heap.size]? = some (.cells #[.int .i64 p, .int .i64 d] 26 (0, 0)) := by rw [hw2]; exact heap_alloc2_old w _ _
  have k2 : w2.heap[w.heap.size + 1]? = some (.cells #[.int .i64 0, .slice none 0 0] 30 (0, 0)) := by rw [hw2]; exact heap_alloc2_new w _ _
  have B2 : Hid (Below w.heap.size w w2) := by rw [hw2]; exact (below_new w _).alloc (by simp) _
  have Z2 : Hid (w2.heap.size = w.heap.size + 2) := by show _ = _; rw [hw2]; simp
  have QS : Hid (∀ W, Below w2.heap.size w2 W → (W.cell? ⟨w.heap.size, 0, none⟩ = some (.int .i64 p) ∧ W.cell? ⟨w.heap.size, 1, none⟩ = some (.int .i64 d)) ∧ (W.cell? ⟨w.heap.size + 1, 0, none⟩ = some (.int .i64 0) ∧ W.cell? ⟨w.heap.size + 1, 1, none⟩ = some (.slice none 0 0)) ∧ W.frozen? ⟨w.heap.size + 1, 0, none⟩ = false ∧ W.frozen? ⟨w.heap.size + 1, 1, none⟩ = false) := fun W hW => by
    have j1 := (hW.block w.heap.size (by have := Z2.out; omega)).trans k1
    have j2 := (hW.block (w.heap.size + 1) (by have := Z2.out; omega)).trans k2
    exact ⟨⟨cell_of_row W _ 0 _ _ _ j1, cell_of_row W _ 1 _ _ _ j1⟩, ⟨cell_of_row W _ 0 _ _ _ j2, cell_of_row W _ 1 _ _ _ j2⟩, frozen_of_row W _ 0 _ _ j2, frozen_of_row W _ 1 _ _ j2⟩
  have K2 := Lib.hid (show ∀ W, Below w2.heap.size w2 W → W.heap[w.heap.size + 1]? = some (.cells #[.int .i64 0, .slice none 0 0] 30 (0, 0)) from fun W hW => (hW.block (w.heap.size + 1) (by have := Z2.out; omega)).trans k2)
  have H2 := Lib.hid (h.lt.below B2.out (Nat.min_le_right _ _))
  have EX := Lib.hid ex
  have HA := Lib.hid hA
  have HW2 := Lib.hid hw2
  have BB : Hid (∀ W, Below w2.heap.size w2 W → Below w.heap.size w W) := fun W hW => B2.out.trans (hW.mono (by have := Z2.out; omega))
  clear h ex hA k1 k2 hw2
  obtain ⟨v, hv⟩ : ∃ v, v = hf hs n := ⟨_, rfl⟩
  go_enter Try.func17, Try.ntmps17
  go_upto_region 1 with (fail)
  rw [← HW2.out]
  go_wp2_with fail
  refine (specHeapFault_any _ _ A n c hs w2 hn H2.out).mono ?_
  rw [← hv]
  rintro e w3 ⟨rfl, hb⟩
  have R3 := Lib.hid hb
  obtain ⟨⟨x0, x1⟩, ⟨y0, y1⟩, f0, f1⟩ := QS.out w3 R3.out
  clear hb
  by_cases h0 : v = 0
  · subst h0
    have H0 := Lib.hid hv.symm
    clear hv
    rcases ho : okE p d with _ | _
    · have PE : Hid (pushH hs n p d = (3, [])) := by show _ = _; unfold pushH; rw [if_neg (by simp [H0.out]), if_pos ho]
      go_wp2_with fail
      refine (l4Entry_any w.heap.size 0 p d w3 x0 x1).mono ?_
      rw [ho]
      rintro e w4 ⟨rfl, rfl⟩
      clear ho
      go_wp2
      exact bodyPost_ret (results_cell_row rfl _ _ _ _ _ (0, 0) _ rfl (heap_setCell_same _ _ 1 _ _ _ (heap_setCell_same _ _ 0 _ _ _ (K2.out _ R3.out))) Try.underlying30 rfl (by kernel_rfl)) rfl (hans_code PE.out (((BB.out _ R3.out).setCell (p := ⟨w.heap.size + 1, 0, none⟩) (by first | omega | simp) _).setCell (p := ⟨w.heap.size + 1, 1, none⟩) (by first | omega | simp) _))
    · go_wp2_with fail
      refine (l4Entry_any w.heap.size 0 p d w3 x0 x1).mono ?_
      rw [ho]
      rintro e w4 ⟨rfl, rfl⟩
      have HO := Lib.hid ho
      clear ho
      obtain ⟨⟨x0, x1⟩, ⟨y0, y1⟩, f0, f1⟩ := QS.out w3 R3.out
      go_wp2_with fail
      refine (l4Find_any _ _ A n c hs d w3 hn (H2.out.below R3.out (by have := B2.out.size; omega))).mono ?_
      rintro e w5 ⟨r, hr, rfl, rfl⟩
      have hf := fnd_has hr
      clear hr
      rcases ho : hasE hs n d with _ | _
      · rw [ho] at hf
        have hr : ¬ 0 ≤ r := by simpa using hf
        have HH := Lib.hid ho
        clear ho hf
        have N12 := Lib.hid (hf_small H0.out)
        by_cases hn12 : n = 12
        · have PE : Hid (pushH hs n p d = (8, [])) := by show _ = _; unfold pushH; rw [if_neg (by simp [H0.out]), if_neg (by rw [HO.out]; decide), if_neg (by rw [HH.out]; decide), if_pos hn12]
          have hn13 : (n : Int) ≥ 12 := by omega
          go_wp2
          exact bodyPost_ret (results_cell_row rfl _ _ _ _ _ (0, 0) _ rfl (heap_setCell_same _ _ 1 _ _ _ (heap_setCell_same _ _ 0 _ _ _ (K2.out _ R3.out))) Try.underlying30 rfl (by kernel_rfl)) rfl (hans_code PE.out (((BB.out _ R3.out).setCell (p := ⟨w.heap.size + 1, 0, none⟩) (by first | omega | simp) _).setCell (p := ⟨w.heap.size + 1, 1, none⟩) (by first | omega | simp) _))
        · have PE : Hid (pushH hs n p d = (0, push4 hs n p d)) := by show _ = _; unfold pushH; rw [if_neg (by simp [H0.out]), if_neg (by rw [HO.out]; decide), if_neg (by rw [HH.out]; decide), if_neg hn12]
          have hn13 : ¬ (n : Int) ≥ 12 := by have := N12.out; omega
          have LC : Hid (∀ W, Below w3.heap.size w3 W → Calls Try.prog 66 #[.slice A n c] W fun e w' => ∃ A' c', e = .returned (.slice A' n c') ∧ A' ≠ none ∧ OR 26 2 w' W.heap.size A' n c' hs ∧ Below W.heap.size W w') := fun W hW =>
            l4Copy_any _ _ A n c hs W hn EX.out HA.out ((H2.out.below R3.out (by have := B2.out.size; omega)).below hW (by have := B2.out.size; have := R3.out.size; omega))
          go_wp2_with fail
          refine wp_region_held_drew (S := fun W => (W.cell? ⟨w.heap.size, 0, none⟩ = some (.int .i64 p) ∧ W.cell? ⟨w.heap.size, 1, none⟩ = some (.int .i64 d))) (by kernel_rfl) (⟨x0, x1⟩) (fun hHeld => ?_)
          obtain ⟨v0, hv0⟩ : ∃ v0, v0 = w3.drew := ⟨_, rfl⟩
          have BL0 : Hid (Below w3.heap.size w3 v0) := by rw [hv0]; exact Below.drew (Below.refl _ _)
          rw [← hv0] at hHeld ⊢
          clear hv0
          refine tkH 0 ?_ rfl ?_ hHeld ?_; rotate_left; (intro w hSw; (try dsimp only at hSw); go_simp; try with_reducible rfl); try simp only [Act.put, zz1, zz2, zz3, zz4, zz5, zz6]
          refine tkH 2 ?_ rfl ?_ hHeld ?_; rotate_left; (intro w hSw; (try dsimp only at hSw); go_simp; try with_reducible rfl); try simp only [Act.put, zz1, zz2, zz3, zz4, zz5, zz6]
          refine wpAnyH_ready (rs := [1]) (by kernel_rfl) (by simp) ?_
          refine AllReadyH.cons (o := _) rfl (fun K0 hK0 => ?_) AllReadyH.nil
          go_simp
          refine (LC.out _ BL0.out).mono ?_
          rintro e9 v4 ⟨A', c', rfl, hnn, ho, hb⟩
          have O4 := Lib.hid ho
          have B4 := Lib.hid (BL0.out.trans (hb.mono BL0.out.size))
          have Z4 := Lib.hid (show w.heap.size + 2 ≤ v0.heap.size ∧ v0.heap.size ≤ v4.heap.size by have := Z2.out; have := R3.out.size; have := BL0.out.size; have := hb.size; omega)
          clear ho hb hnn
          go_wp2_with fail
          refine hK0.out _ _ ((QS.out _ (R3.out.trans (B4.out.mono R3.out.size))).1) (fun hHeld => ?_)
          clear hK0 K0
          try simp only [Act.put, zz1, zz2, zz3, zz4, zz5, zz6]
          refine wpAnyH_ready (rs := [3]) (by kernel_rfl) (by simp) ?_
          refine AllReadyH.cons (o := _) rfl (fun K0 hK0 => ?_) AllReadyH.nil
          go_simp
          refine (l4Push_any A' n c' hs p d v0.heap.size v4 N12.out Z4.out.2 O4.out).mono ?_
          rintro e9 v5 ⟨A2, c2, rfl, ho, hb⟩
          have O5 := Lib.hid ho
          have B5 := Lib.hid (BB.out v5 (R3.out.trans ((B4.out.mono R3.out.size).trans (hb.mono (by have := R3.out.size; have := BL0.out.size; omega)))))
          have K5 := Lib.hid (K2.out v5 (R3.out.trans ((B4.out.mono R3.out.size).trans (hb.mono (by have := R3.out.size; have := BL0.out.size; omega)))))
          have Q5 := Lib.hid (QS.out v5 (R3.out.trans ((B4.out.mono R3.out.size).trans (hb.mono (by have := R3.out.size; have := BL0.out.size; omega))))).1
          clear ho hb
          go_wp2_with fail
          refine hK0.out _ _ (Q5.out) (fun hHeld => ?_)
          clear hK0 K0
          try simp only [Act.put, zz1, zz2, zz3, zz4, zz5, zz6]
          refine tkH 4 ?_ rfl ?_ hHeld ?_; rotate_left; (intro w hSw; (try dsimp only at hSw); go_simp; try with_reducible rfl); try simp only [Act.put, zz1, zz2, zz3, zz4, zz5, zz6]
          refine wpAnyH_ready (rs := [5]) (by kernel_rfl) (by simp) ?_
          refine AllReadyH.cons (o := _) rfl (fun K0 hK0 => ?_) AllReadyH.nil
          clear hHeld
          rw [if_pos (by rfl)]
          refine wp_store_row 30 _ _ rfl (w.heap.size + 1) _ rfl rfl 30 _ K5.out (by kernel_rfl) rfl (by simp [Value.oneCell']) ?_
          refine hK0.out _ _ (⟨cell_setRow_far Q5.out.1 (by omega), cell_setRow_far Q5.out.2 (by omega)⟩) (fun hHeld => ?_)
          clear hK0 K0
          refine wpAnyH_done (by kernel_rfl) ?_ _
          go_wp2_with fail
          exact bodyPost_ret (results_cell_row rfl _ _ _ _ _ (0, 0) _ rfl (setRow_heap _ _ _ _ _ _ K5.out) Try.underlying30 rfl (by kernel_rfl)) rfl ⟨_, _, _, by rw [PE.out], by rw [PE.out]; exact (OR.mono (O5.out.keepAll fun g e => by subst e; exact setRow_other _ _ _ _ (by have := (OR.lt O5.out).1; have := Z4.out; omega)) (by have := Z4.out; omega)), below_setRow B5.out (by omega) _⟩
      · have PE : Hid (pushH hs n p d = (6, [])) := by show _ = _; unfold pushH; rw [if_neg (by simp [H0.out]), if_neg (by rw [HO.out]; decide), if_pos ho]
        rw [ho] at hf
        have hr : 0 ≤ r := by simpa using hf
        clear ho hf
        go_wp2
        exact bodyPost_ret (results_cell_row rfl _ _ _ _ _ (0, 0) _ rfl (heap_setCell_same _ _ 1 _ _ _ (heap_setCell_same _ _ 0 _ _ _ (K2.out _ R3.out))) Try.underlying30 rfl (by kernel_rfl)) rfl (hans_code PE.out (((BB.out _ R3.out).setCell (p := ⟨w.heap.size + 1, 0, none⟩) (by first | omega | simp) _).setCell (p := ⟨w.heap.size + 1, 1, none⟩) (by first | omega | simp) _))
  · have PE : Hid (pushH hs n p d = (v, [])) := by show _ = _; unfold pushH; rw [if_pos (by rw [← hv]; exact h0), ← hv]
    have hv0 : (v != 0) = true := by simp [h0]
    clear hv
    go_wp2
    exact bodyPost_ret (results_cell_row rfl _ _ _ _ _ (0, 0) _ rfl (heap_setCell_same _ _ 1 _ _ _ (heap_setCell_same _ _ 0 _ _ _ (K2.out _ R3.out))) Try.underlying30 rfl (by kernel_rfl)) rfl (hans_code PE.out (((BB.out _ R3.out).setCell (p := ⟨w.heap.size + 1, 0, none⟩) (by first | omega | simp) _).setCell (p := ⟨w.heap.size + 1, 1, none⟩) (by first | omega | simp) _))

end Go.Proofs.Ytckapndpefkcgaa
