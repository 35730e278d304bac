/-
  The model's PopHeap and HeapOf. No conditions beyond that the heap can be read.
-/
import Derived.Laws.AppendOwnNone
import Derived.BigRegion
import Derived.BigQuiet
import Derived.StillTailTactics
import Derived.Deep.RegionHeld3
import Derived.Test.YtckapndpefkcgaaTk
import Derived.Test.YtckapndpefkcgaaKit4
import Derived.Test.YtckapndpefkcgaaMath4
import Derived.Test.YtckapndpefkcgaaSpec4e
import Derived.Test.YtckapndpefkcgaaOwn4
set_option maxHeartbeats 1000000
namespace Go.Proofs.Ytckapndpefkcgaa
open List renaming getElem_toArray → zz1, getElem_cons_succ → zz2, getElem_cons_zero → zz3, setIfInBounds_toArray → zz4, set_cons_zero → zz5, set_cons_succ → zz6
open Go.RowKit
set_option maxRecDepth 100000

def EAns (r : Int × Int × Int × List Int) (w : World) (e : Ending) (w' : World) : Prop :=
  ∃ A n c, e = .returned (.agg #[.int .i64 r.1, .int .i64 r.2.1, .int .i64 r.2.2.1, .slice A n c]) ∧ OR 26 2 w' w.heap.size A n c r.2.2.2 ∧ Below w.heap.size w w'
theorem eans_code {q : Int} {r : Int × Int × Int × List Int} {w w' : World} (hr : r = (q, 0, 0, [])) (hb : Below w.heap.size w w') : EAns r w (.returned (.agg #[.int .i64 q, .int .i64 0, .int .i64 0, .slice none 0 0])) w' := by
  subst hr
  exact ⟨none, 0, 0, rfl, OR.void _ _, hb⟩

set_option maxHeartbeats 1000000 in
theorem specPopHeap_any (lo hi : Nat) (A : Option Addr) (n c : Nat) (hs : List Int) (w : World) (hn : n * 16 ≤ 140737488351232) (ex : hs.length = n * 2) (hA : A = none → c = 0) (h : Sl w lo hi A (n * 2) (fun k => .int .i64 (gi hs k))) :
    Calls Try.prog 18 #[.slice A n c] w (EAns (popH hs n) w) := by
  obtain ⟨w2, hw2⟩ : ∃ w2, w2 = w.alloc (.cells #[.int .i64 0, .int .i64 0, .int .i64 0, .slice none 0 0] 34) := ⟨_, rfl⟩
  have k2 : w2.heap[w.heap.size]? = some (.cells #[.int .i64 0, .int .i64 0, .int .i64 0, .slice none 0 0] 34 (0, 0)) := by rw [hw2]; exact heap_alloc_new w _
  have B2 : Hid (Below w.heap.size w w2) := by rw [hw2]; exact below_new w _
  have Z2 : Hid (w2.heap.size = w.heap.size + 1) := by show _ = _; rw [hw2]; simp
  have K2 := Lib.hid (show ∀ W, Below w2.heap.size w2 W → W.heap[w.heap.size]? = some (.cells #[.int .i64 0, .int .i64 0, .int .i64 0, .slice none 0 0] 34 (0, 0)) from fun W hW => (hW.block w.heap.size (by have := Z2.out; omega)).trans k2)
  have H2 := Lib.hid (h.lt.below B2.out (Nat.min_le_right _ _))
  have EX := Lib.hid ex
  have HA := Lib.hid hA
  have HW2 := Lib.hid hw2
  have BB : Hid (∀ W, Below w2.heap.size w2 W → Below w.heap.size w W) := fun W hW => B2.out.trans (hW.mono (by have := Z2.out; omega))
  clear h ex hA k2 hw2
  obtain ⟨v, hv⟩ : ∃ v, v = hf hs n := ⟨_, rfl⟩
  go_enter Try.func18, Try.ntmps18
  go_upto_region 1 with (fail)
  rw [← HW2.out]
  go_wp2_with fail
  refine (specHeapFault_any _ _ A n c hs w2 hn H2.out).mono ?_
  rw [← hv]
  rintro e w3 ⟨rfl, hb⟩
  have R3 := Lib.hid hb
  clear hb
  have k3 := K2.out w3 R3.out
  have y0 := cell_of_row w3 _ 0 _ _ _ k3; have y1 := cell_of_row w3 _ 1 _ _ _ k3; have y2 := cell_of_row w3 _ 2 _ _ _ k3; have y3 := cell_of_row w3 _ 3 _ _ _ k3
  have f0 := frozen_of_row w3 _ 0 _ _ k3; have f1 := frozen_of_row w3 _ 1 _ _ k3; have f2 := frozen_of_row w3 _ 2 _ _ k3; have f3 := frozen_of_row w3 _ 3 _ _ k3
  simp at y0 y1 y2 y3
  clear k3
  by_cases h0 : v = 0
  · subst h0
    have H0 := Lib.hid hv.symm
    clear hv
    have N12 := Lib.hid (hf_small H0.out)
    rcases n with _ | m
    · have PE : Hid (popH hs 0 = (4, 0, 0, [])) := by show _ = _; unfold popH; rw [if_neg (by simp [H0.out]), if_pos rfl]
      go_wp2
      exact bodyPost_ret (results_cell_row rfl _ _ _ _ _ (0, 0) _ rfl (heap_setCell_same _ _ 3 _ _ _ (heap_setCell_same _ _ 2 _ _ _ (heap_setCell_same _ _ 1 _ _ _ (heap_setCell_same _ _ 0 _ _ _ (K2.out _ R3.out))))) Try.underlying34 rfl (by kernel_rfl)) rfl (eans_code PE.out (((((BB.out _ R3.out).setCell (p := ⟨w.heap.size, 0, none⟩) (by first | omega | simp) _).setCell (p := ⟨w.heap.size, 1, none⟩) (by first | omega | simp) _).setCell (p := ⟨w.heap.size, 2, none⟩) (by first | omega | simp) _).setCell (p := ⟨w.heap.size, 3, none⟩) (by first | omega | simp) _))
    · have PE : Hid (popH hs (m + 1) = (0, gi hs 0, gi hs 1, pop4 hs m)) := by show _ = _; unfold popH; rw [if_neg (by simp [H0.out]), if_neg (by omega)]; rfl
      have hm0 : ¬ ((m : Int) + 1 = 0) := by omega
      have hm1 : (0 : Int) < (m : Int) + 1 := by omega
      have H3 := Lib.hid (H2.out.below R3.out (by have := B2.out.size; omega))
      obtain ⟨b, off, rfl, b1, b2, hcc⟩ := H3.out.at_ (show 0 < (m + 1) * 2 by omega)
      have e0 : w3.cell? ⟨b, off, none⟩ = some (.int .i64 (gi hs 0)) := hcc 0 (by omega)
      have e1 : w3.cell? ⟨b, off + 1, none⟩ = some (.int .i64 (gi hs 1)) := hcc 1 (by omega)
      have E9 := Lib.hid (show b ≠ w.heap.size by omega)
      have E0 : Hid (∀ W, Below w3.heap.size w3 W → (W.cell? ⟨b, off, none⟩ = some (.int .i64 (gi hs 0)) ∧ W.cell? ⟨b, off + 1, none⟩ = some (.int .i64 (gi hs 1)))) := fun W hW =>
        ⟨(hW.cell (p := ⟨b, off, none⟩) (World.block_lt_of_cell? _ _ e0)).trans e0, (hW.cell (p := ⟨b, off + 1, none⟩) (World.block_lt_of_cell? _ _ e1)).trans e1⟩
      have LC : Hid (∀ W, Below w3.heap.size w3 W → Calls Try.prog 66 #[.slice (some ⟨b, off, none⟩) (m + 1) c] W fun e w' => ∃ A' c', e = .returned (.slice A' (m + 1) c') ∧ A' ≠ none ∧ OR 26 2 w' W.heap.size A' (m + 1) c' hs ∧ Below W.heap.size W w') := fun W hW =>
        l4Copy_any _ _ _ (m + 1) c hs W hn EX.out HA.out (H3.out.below hW (by have := B2.out.size; have := R3.out.size; omega))
      clear hcc y0 y1 y2 y3 f0 f1 f2 f3
      go_wp2_with fail
      refine wp_region_held_drew (S := fun W => (W.cell? ⟨b, off, none⟩ = some (.int .i64 (gi hs 0)) ∧ W.cell? ⟨b, off + 1, none⟩ = some (.int .i64 (gi hs 1)))) (by kernel_rfl) (⟨e0, e1⟩) (fun hHeld => ?_)
      obtain ⟨v0, hv0⟩ : ∃ v0, v0 = w3.drew := ⟨_, rfl⟩
      have BL0 : Hid (Below w3.heap.size w3 v0) := by rw [hv0]; exact Below.drew (Below.refl _ _)
      rw [← hv0] at hHeld ⊢
      clear hv0
      refine tkH 0 ?_ rfl ?_ hHeld ?_; rotate_left; (intro w hSw; (try dsimp only at hSw); go_simp; try with_reducible rfl); try simp only [Act.put, zz1, zz2, zz3, zz4, zz5, zz6]
      refine tkH 1 ?_ rfl ?_ hHeld ?_; rotate_left; (intro w hSw; (try dsimp only at hSw); go_simp; try with_reducible rfl); try simp only [Act.put, zz1, zz2, zz3, zz4, zz5, zz6]
      refine tkH 2 ?_ rfl ?_ hHeld ?_; rotate_left; (intro w hSw; (try dsimp only at hSw); go_simp; try with_reducible rfl); try simp only [Act.put, zz1, zz2, zz3, zz4, zz5, zz6]
      refine tkH 3 ?_ rfl ?_ hHeld ?_; rotate_left; (intro w hSw; (try dsimp only at hSw); go_simp; try with_reducible rfl); try simp only [Act.put, zz1, zz2, zz3, zz4, zz5, zz6]
      refine wpAnyH_ready (rs := [4]) (by kernel_rfl) (by simp) ?_
      refine AllReadyH.cons (o := _) rfl (fun K0 hK0 => ?_) AllReadyH.nil
      go_simp
      refine (LC.out _ BL0.out).mono ?_
      rintro e9 v4 ⟨A', c', rfl, hnn, ho, hb⟩
      obtain ⟨g', rfl, _, _⟩ := OR.at_ ho hnn
      have O4 := Lib.hid ho
      have B4 := Lib.hid (BL0.out.trans (hb.mono BL0.out.size))
      have Z4 := Lib.hid (show w.heap.size + 1 ≤ v0.heap.size ∧ v0.heap.size ≤ v4.heap.size by have := Z2.out; have := R3.out.size; have := BL0.out.size; have := hb.size; omega)
      clear ho hb hnn
      go_wp2_with fail
      refine hK0.out _ _ (E0.out _ B4.out) (fun hHeld => ?_)
      clear hK0 K0
      try simp only [Act.put, zz1, zz2, zz3, zz4, zz5, zz6]
      refine wpAnyH_ready (rs := [5]) (by kernel_rfl) (by simp) ?_
      refine AllReadyH.cons (o := _) rfl (fun K0 hK0 => ?_) AllReadyH.nil
      go_simp
      refine (l4Pop_any g' m c' hs v0.heap.size v4 (by have := N12.out; omega) Z4.out.2 O4.out).mono ?_
      rintro e9 v5 ⟨rfl, ho, hb⟩
      have O5 := Lib.hid ho
      have B5 := Lib.hid (B4.out.trans (hb.mono BL0.out.size))
      clear ho hb
      go_wp2_with fail
      refine hK0.out _ _ (E0.out _ B5.out) (fun hHeld => ?_)
      clear hK0 K0
      try simp only [Act.put, zz1, zz2, zz3, zz4, zz5, zz6]
      refine tkH 6 ?_ rfl ?_ hHeld ?_; rotate_left; (intro w hSw; (try dsimp only at hSw); go_simp; try with_reducible rfl); try simp only [Act.put, zz1, zz2, zz3, zz4, zz5, zz6]
      refine wpAnyH_ready (rs := [7]) (by kernel_rfl) (by simp) ?_
      refine AllReadyH.cons (o := _) rfl (fun K0 hK0 => ?_) AllReadyH.nil
      clear hHeld
      rw [if_pos (by rfl)]
      refine wp_store_row 34 _ _ rfl (w.heap.size) _ rfl rfl 34 _ (K2.out _ (R3.out.trans (B5.out.mono R3.out.size))) (by kernel_rfl) rfl (by simp [Value.oneCell']) ?_
      refine hK0.out _ _ (⟨cell_setRow_far (E0.out _ B5.out).1 (by have := E9.out; omega), cell_setRow_far (E0.out _ B5.out).2 (by have := E9.out; omega)⟩) (fun hHeld => ?_)
      clear hK0 K0
      refine wpAnyH_done (by kernel_rfl) ?_ _
      go_wp2_with fail
      exact bodyPost_ret (results_cell_row rfl _ _ _ _ _ (0, 0) _ rfl (setRow_heap _ _ _ _ _ _ (K2.out _ (R3.out.trans (B5.out.mono R3.out.size)))) Try.underlying34 rfl (by kernel_rfl)) rfl ⟨_, _, _, by rw [PE.out], by rw [PE.out]; exact (OR.mono (O5.out.keepAll fun g e => by injection e with e; injection e with e; subst e; exact setRow_other _ _ _ _ (by have := (OR.lt O5.out).1; have := Z4.out; omega)) (by have := Z4.out; omega)), below_setRow (BB.out _ (R3.out.trans (B5.out.mono R3.out.size))) (by omega) _⟩
  · have PE : Hid (popH hs n = (v, 0, 0, [])) := by show _ = _; unfold popH; rw [if_pos (by rw [← hv]; exact h0), ← hv]
    have hv0 : (v != 0) = true := by simp [h0]
    clear hv
    go_wp2
    exact bodyPost_ret (results_cell_row rfl _ _ _ _ _ (0, 0) _ rfl (heap_setCell_same _ _ 3 _ _ _ (heap_setCell_same _ _ 2 _ _ _ (heap_setCell_same _ _ 1 _ _ _ (heap_setCell_same _ _ 0 _ _ _ (K2.out _ R3.out))))) Try.underlying34 rfl (by kernel_rfl)) rfl (eans_code PE.out (((((BB.out _ R3.out).setCell (p := ⟨w.heap.size, 0, none⟩) (by first | omega | simp) _).setCell (p := ⟨w.heap.size, 1, none⟩) (by first | omega | simp) _).setCell (p := ⟨w.heap.size, 2, none⟩) (by first | omega | simp) _).setCell (p := ⟨w.heap.size, 3, none⟩) (by first | omega | simp) _))

end Go.Proofs.Ytckapndpefkcgaa
