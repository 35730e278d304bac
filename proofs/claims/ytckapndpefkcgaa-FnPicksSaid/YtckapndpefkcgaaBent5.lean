/-
  What l5Bent answers: a schedule that was perhaps bent. For codes of at most 2^20 bytes.
-/
import Derived.Deep.RegionHeld3
import Derived.Test.YtckapndpefkcgaaDrawJ10
import Derived.Test.YtckapndpefkcgaaLast5
set_option maxHeartbeats 1000000
namespace Go.Proofs.Ytckapndpefkcgaa
open Go.RowKit
set_option maxRecDepth 100000

theorem SX.cells {w W : World} {g k c a so c' : Nat} {A B : Option Addr} {b : Int} {xs : List R3} (h : SX w W g A k c a so b B c' xs) : W.cell? ⟨so, 0, none⟩ = some (.int .i64 b) ∧ W.cell? ⟨so, 1, none⟩ = some (.slice B xs.length c') :=
  ⟨cell_of_row W so 0 _ _ _ h.bx, cell_of_row W so 1 _ _ _ h.bx⟩
/-- the passes, by their places -/
def psv (xs : List R3) (i : Nat) : Int := (g3 xs i).2.2
theorem SX.passes {w W : World} {g k c a so c' gB : Nat} {A : Option Addr} {b : Int} {xs : List R3} (h : SX w W g A k c a so b (some ⟨gB, 0, none⟩) c' xs) : W.cell? ⟨so, 1, none⟩ = some (.slice (some ⟨gB, 0, none⟩) xs.length c') ∧ ∀ i, i < xs.length → W.cell? ⟨gB, i * 3 + 2, none⟩ = some (.int .i64 (psv xs i)) :=
  ⟨cell_of_row W so 1 _ _ _ h.bx, fun i hi => by rw [h.ow.cell (j := i * 3 + 2) (by omega), (fl_get xs i hi).2.2]; rfl⟩
/-- one more in the list, ahead of the store into the box -/
theorem SX.app {w W V : World} {g k c a so c' g7 cap : Nat} {A B : Option Addr} {b v1 v2 v3 : Int} {xs : List R3} (h : SX w W g A k c a so b B c' xs) (hown : V.ownsRow w.heap.size 52 3 (.slice (some ⟨g7, 0, none⟩) (xs.length + 1) cap) (xs.length + 1) (vals (fl xs) ++ [.int .i64 v1, .int .i64 v2, .int .i64 v3]))
    (hg : W.grownBy V (Value.slice B xs.length c').ownBlock) : V.heap[so]? = some (.cells #[.int .i64 b, .slice B xs.length c'] 43 (0, 0)) ∧
      ∀ b2, ∃ ys : List R3, ys.length = xs.length + 1 ∧ SX w ((V.setCell ⟨so, 0, none⟩ (.int .i64 b2)).setCell ⟨so, 1, none⟩ (.slice (some ⟨g7, 0, none⟩) ys.length cap)) g A k c a so b2 (some ⟨g7, 0, none⟩) cap ys ∧ SX w (V.setCell ⟨so, 1, none⟩ (.slice (some ⟨g7, 0, none⟩) ys.length cap)) g A k c a so b (some ⟨g7, 0, none⟩) cap ys := by
  have hso := h.so
  have gw := h.gw
  have hb : V.heap[so]? = some (.cells #[.int .i64 b, .slice B xs.length c'] 43 (0, 0)) := (hg.block so h.lt (or_own_ne h.bx (by decide) h.ow)).trans h.bx
  have hr : V.heap[w.heap.size]? = some (.cells #[.int .i64 0, .slice none 0 0] 43 (0, 0)) := (hg.block w.heap.size (Array.getElem?_eq_some_iff.1 h.rb).1 (or_own_ne h.rb (by decide) h.ow)).trans h.rb
  have ob : ∀ q, (Value.slice B xs.length c').ownBlock = some q → w.heap.size ≤ q := fun q hq => own_base h.ow q hq
  have hs : Src V g A k c a := h.sr.grown hg (fun q hq => by have := ob q hq; omega)
  have ho : Only g (g + 1) w V := h.on.grown hg (by omega) ob
  refine ⟨hb, fun b2 => ?_⟩
  obtain ⟨ys, hy⟩ : ∃ ys : List R3, ys = xs ++ [(v1, v2, v3)] := ⟨_, rfl⟩
  have hl : ys.length = xs.length + 1 := by rw [hy]; simp
  have hO : OR 52 3 V w.heap.size (some ⟨g7, 0, none⟩) ys.length cap (fl ys) := by
    rw [hy, fl_snoc]
    unfold OR
    rw [show vals (fl xs ++ [v1, v2, v3]) = vals (fl xs) ++ [.int .i64 v1, .int .i64 v2, .int .i64 v3] by simp [vals], show (xs ++ [((v1, v2, v3) : R3)]).length = xs.length + 1 by simp]
    exact hown
  refine ⟨ys, hl, ?_, ?_⟩
  · refine ⟨OR.setOther (OR.setOther hO hb (by decide) 0 _) (heap_setCell_same _ _ 0 _ _ _ hb) (by decide) 1 _, blk2_set hb _ _, ?_, hso, ?_, ?_, gw⟩
    · exact (Below.heap_setCell _ ⟨so, 1, none⟩ _ _ (by simp; omega)).trans ((Below.heap_setCell _ ⟨so, 0, none⟩ _ _ (by simp; omega)).trans hr)
    · exact (Below.heap_setCell _ ⟨so, 1, none⟩ _ g (by simp; omega)).trans ((Below.heap_setCell _ ⟨so, 0, none⟩ _ g (by simp; omega)).trans hs)
    · refine ⟨(ho.1.setCell (p := ⟨so, 0, none⟩) (by simp; omega) _).setCell (p := ⟨so, 1, none⟩) (by simp; omega) _, fun q h1 h2 => ?_⟩
      exact (Below.heap_setCell _ ⟨so, 1, none⟩ _ q (by simp; omega)).trans ((Below.heap_setCell _ ⟨so, 0, none⟩ _ q (by simp; omega)).trans (ho.2 q h1 h2))
  · refine ⟨OR.setOther hO hb (by decide) 1 _, heap_setCell_same _ _ 1 _ _ _ hb, ?_, hso, ?_, ?_, gw⟩
    · exact (Below.heap_setCell _ ⟨so, 1, none⟩ _ _ (by simp; omega)).trans hr
    · exact (Below.heap_setCell _ ⟨so, 1, none⟩ _ g (by simp; omega)).trans hs
    · exact ⟨ho.1.setCell (p := ⟨so, 1, none⟩) (by simp; omega) _, fun q h1 h2 => (Below.heap_setCell _ ⟨so, 1, none⟩ _ q (by simp; omega)).trans (ho.2 q h1 h2)⟩
theorem made_take3 (n : Nat) : (madeCells (Value.agg #[.int .i64 0, .int .i64 0, .int .i64 0]).cells n).toList.take n = vals (List.replicate n 0) := by
  have hz : (Value.agg #[.int .i64 0, .int .i64 0, .int .i64 0]).cells = #[.int .i64 0, .int .i64 0, .int .i64 0] := rfl
  rw [hz]
  apply List.ext_getElem
  · simp [madeCells, vals]
  · intro i h1 h2
    simp only [List.getElem_take, madeCells, vals, Array.getElem_toList, Array.getElem_map, Array.getElem_range, List.getElem_map, List.getElem_replicate]
    have hs : (#[.int .i64 0, .int .i64 0, .int .i64 0] : Array Value).size = 3 := rfl
    rw [hs]
    rcases (show i % 3 = 0 ∨ i % 3 = 1 ∨ i % 3 = 2 by omega) with h | h | h <;> rw [h] <;> rfl
theorem or_made5 (W : World) (n : Nat) (hn : n ≤ 6) {base : Nat} (hb : base ≤ W.heap.size) : OR 52 3 (W.alloc (.cells (madeCells (Value.agg #[.int .i64 0, .int .i64 0, .int .i64 0]).cells (n * 3)) 52)) base (some ⟨W.heap.size, 0, none⟩) n n (List.replicate (n * 3) 0) :=
  ⟨by simp [vals], .inr ⟨W.heap.size, n, _, rfl, hb, heap_alloc_new _ _, Nat.le_refl _, by unfold maxLen; omega, size_madeCells _ _, made_take3 (n * 3)⟩⟩
theorem fl_zero (n : Nat) : fl (List.replicate n ((0, 0, 0) : R3)) = List.replicate (n * 3) 0 := by
  induction n with
  | zero => rfl
  | succ n ih =>
    rw [List.replicate_succ]
    show [0, 0, 0] ++ fl (List.replicate n ((0, 0, 0) : R3)) = _
    rw [ih, show (n + 1) * 3 = n * 3 + 3 by omega]
    rfl
def Any5 (_ : Int) (_ : List R3) : Prop := True

set_option maxHeartbeats 16000000 in
theorem l5Bent_any (lo hi g : Nat) (A : Option Addr) (k c a : Nat) (b : Nat → Int) (w : World) (hk : k ≤ 1048576) (ha : a ≤ 1000000) (hb : ∀ j, 0 ≤ b j ∧ b j ≤ 255) (h : Sl w lo hi A k (fun j => .int .u8 (b j))) (hg : hi ≤ g) (hs : Src w g A k c a) :
    Calls Try.prog 81 #[.pointer (some ⟨g, 0, none⟩)] w (SdD 6 50 g Any5 A k c a w) := by
  have hgw := hs.lt
  have H := Lib.hid h
  have HBY := Lib.hid hb
  have CD : Hid (∀ W, Only g (g + 1) w W → Sl W lo (min hi w.heap.size) A k (fun j => .int .u8 (b j))) := fun W hW => H.out.lt.only hW (by omega) (.inl (by omega))
  obtain ⟨w1, hw1⟩ : ∃ w1, w1 = w.alloc (.cells #[.int .i64 0, .slice none 0 0] 43) := ⟨_, rfl⟩
  have K1 : Hid (w1.heap[w.heap.size]? = some (.cells #[.int .i64 0, .slice none 0 0] 43 (0, 0))) := by show _ = _; rw [hw1]; exact heap_alloc_new w _
  have O1 : Hid (Only g (g + 1) w w1) := by rw [hw1]; exact (Only.refl _ _ _).alloc (by omega) _
  have S1 : Hid (Src w1 g A k c a) := by rw [hw1]; exact hs.alloc _
  have Z1 : Hid (w1.heap.size = w.heap.size + 1) := by show _ = _; rw [hw1]; simp
  have HW1 := Lib.hid hw1
  clear h hb hs hw1
  go_enter Try.func81, Try.ntmps81
  go_upto_region 1 with (fail)
  rw [← HW1.out]
  clear HW1
  have C1 := Lib.hid (l5Draw_any lo (min hi w.heap.size) g A k c a b w1 hk (by omega) HBY.out (CD.out w1 O1.out) (by omega) S1.out)
  go_wp2_with fail
  refine C1.out.mono ?_
  rintro e w2 ⟨b5, B, c', xs, a2, rfl, hl5, ha2, hd, hO, hs, ho⟩
  obtain ⟨w3, hw3⟩ : ∃ V, V = w2.alloc (.cells #[.int .i64 b5, .slice B xs.length c'] 43) := ⟨_, rfl⟩
  obtain ⟨so, hso⟩ : ∃ s, s = w2.heap.size := ⟨_, rfl⟩
  have J3 : Hid (SX w w3 g A k c a2 so b5 B c' xs) := by
    have z1 := Z1.out
    have z2 := ho.1.size
    have k2 := (ho.2 w.heap.size (by omega) (by omega)).trans K1.out
    refine ⟨?_, ?_, ?_, ?_, ?_, ?_, hgw⟩
    · rw [hw3]; exact (hO.mono (by omega)).alloc _
    · rw [hw3, hso]; exact heap_alloc_new w2 _
    · rw [hw3]; exact (Below.heap_alloc w2 _ _ (by omega)).trans k2
    · omega
    · rw [hw3]; exact hs.alloc _
    · rw [hw3]; exact (O1.out.trans ho).alloc (by omega) _
  have DN := Lib.hid hd
  have hbb : 0 ≤ b5 ∧ b5 ≤ 10020000 := hd.2
  have HW3 := Lib.hid hw3; have HSO := Lib.hid hso
  clear hw3 hso O1 S1 K1 Z1 hd hO hs ho C1
  go_upto_region 2 with (fail)
  rw [← HW3.out, ← HSO.out]
  clear HW3 HSO
  have q0 := cell_of_row w3 _ 0 _ _ _ J3.out.bx; have q1 := cell_of_row w3 _ 1 _ _ _ J3.out.bx
  have f0 := frozen_of_row w3 _ 0 _ _ J3.out.bx; have f1 := frozen_of_row w3 _ 1 _ _ J3.out.bx
  simp at q0 q1
  have CN := Lib.hid (l1Next_any lo (min hi w.heap.size) g A k c (a2) (16) b w3 (by omega) hk (by omega) HBY.out (CD.out w3 J3.out.on) (by omega) J3.out.sr)
  go_wp2_with fail
  refine CN.out.mono ?_
  rintro e w4 ⟨r, rfl, hr, _, hs, ho⟩
  clear CN
  have J4 := Lib.hid (J3.out.step hs ho)
  have hr16 : r < 16 := by have := hr (by omega); omega
  clear hs ho hr J3 q0 q1 f0 f1
  by_cases e0 : r = 0
  · subst e0
    have n0 : (((0 : Nat) : Int) == 0) = true := by simp
    have q0 := cell_of_row w4 _ 0 _ _ _ J4.out.bx; have q1 := cell_of_row w4 _ 1 _ _ _ J4.out.bx
    have f0 := frozen_of_row w4 _ 0 _ _ J4.out.bx; have f1 := frozen_of_row w4 _ 1 _ _ J4.out.bx
    simp at q0 q1
    have CP := Lib.hid (pick_lit lo (min hi w.heap.size) g A k c (a2 + 1) 3 2 #[.int .i64 (-1), .int .i64 10000001, .int .i64 (b5 + 1)] b [-1, 10000001, (b5 + 1)] w4 hk (by omega) HBY.out (CD.out w4 J4.out.on) (by omega) J4.out.sr rfl (by omega) (by omega) (fun q hq => by rcases (show q = 0 ∨ q = 1 ∨ q = 2 by omega) with rfl | rfl | rfl <;> rfl))
    go_wp2_with fail
    refine CP.out.mono ?_
    rintro e w5 ⟨r9, hr9, rfl, hs, ho, hz9⟩
    generalize gi [-1, 10000001, (b5 + 1)] r9 = v at *
    clear hr9 CP hz9
    have J5 := Lib.hid (J4.out.step hs ho)
    clear hs ho J4 q0 q1 f0 f1
    have q0 := cell_of_row w5 _ 0 _ _ _ J5.out.bx; have q1 := cell_of_row w5 _ 1 _ _ _ J5.out.bx
    have f0 := frozen_of_row w5 _ 0 _ _ J5.out.bx; have f1 := frozen_of_row w5 _ 1 _ _ J5.out.bx
    simp at q0 q1
    go_upto_region 13 with (fail)
    clear q0 q1 f0 f1
    obtain ⟨wz, hwz⟩ : ∃ V, V = w5.setCell ⟨so, 0, none⟩ (.int .i64 v) := ⟨_, rfl⟩
    rw [← hwz]
    have JZ : Hid (SX w wz g A k c (a2 + 1 + 1) so v B c' xs) := by rw [hwz]; exact J5.out.put0 v
    clear hwz
    have q0 := cell_of_row wz _ 0 _ _ _ JZ.out.bx; have q1 := cell_of_row wz _ 1 _ _ _ JZ.out.bx
    have f0 := frozen_of_row wz _ 0 _ _ JZ.out.bx; have f1 := frozen_of_row wz _ 1 _ _ JZ.out.bx
    simp at q0 q1
    have r0 := cell_of_row wz _ 0 _ _ _ JZ.out.rb; have r1 := cell_of_row wz _ 1 _ _ _ JZ.out.rb
    have t0 := frozen_of_row wz _ 0 _ _ JZ.out.rb; have t1 := frozen_of_row wz _ 1 _ _ JZ.out.rb
    simp at r0 r1
    have sw := JZ.out.so
    go_wp2
    refine bodyPost_ret (results_cell_row rfl _ _ w.heap.size _ _ (0, 0) _ rfl (heap_setCell_same _ _ 1 _ _ _ (heap_setCell_same _ _ 0 _ _ _ JZ.out.rb)) Try.underlying43 rfl (by kernel_rfl)) rfl ?_
    exact ⟨v, B, c', xs, a2 + 1 + 1, rfl, by omega, by omega, trivial, JZ.out.fin⟩
  have n0 : ((r : Int) == 0) = false := by simp; omega
  by_cases e1 : r = 1
  · subst e1
    have n0 : (((1 : Nat) : Int) == 0) = false := by simp
    have n1 : (((1 : Nat) : Int) == 1) = true := by simp
    have q0 := cell_of_row w4 _ 0 _ _ _ J4.out.bx; have q1 := cell_of_row w4 _ 1 _ _ _ J4.out.bx
    have f0 := frozen_of_row w4 _ 0 _ _ J4.out.bx; have f1 := frozen_of_row w4 _ 1 _ _ J4.out.bx
    simp at q0 q1
    go_wp2_with fail
    clear q0 q1 f0 f1
    refine wp_region_last (fun W => W.cell? ⟨so, 0, none⟩ = some (.int .i64 b5) ∧ W.cell? ⟨so, 1, none⟩ = some (.slice B xs.length c')) 14 (by kernel_rfl) (J4.out.cells) (fun hHeld => ?_)
    obtain ⟨v0, hv0⟩ : ∃ v0, v0 = w4.drew := ⟨_, rfl⟩
    have BL0 : Hid (Below w4.heap.size w4 v0) := by rw [hv0]; exact Below.drew (Below.refl _ _)
    rw [← hv0] at hHeld ⊢
    clear hv0
    have Y0 : Hid (SX w v0 g A k c (a2 + 1) so b5 B c' xs) := J4.out.below BL0.out
    clear J4 BL0
    refine wpAnyL_take 0 ?_ rfl (by rfl) ?_ hHeld ?_
    rotate_left
    · (intro w hSw; (try dsimp only at hSw); go_simp; try with_reducible rfl)
    try simp only [Act.put, List.getElem_toArray, List.getElem_cons_succ, List.getElem_cons_zero, List.setIfInBounds_toArray, List.set_cons_zero, List.set_cons_succ]
    refine wpAnyL_take 1 ?_ rfl (by rfl) ?_ hHeld ?_
    rotate_left
    · (intro w hSw; (try dsimp only at hSw); go_simp; try with_reducible rfl)
    try simp only [Act.put, List.getElem_toArray, List.getElem_cons_succ, List.getElem_cons_zero, List.setIfInBounds_toArray, List.set_cons_zero, List.set_cons_succ]
    refine wpAnyL_take 2 ?_ rfl (by rfl) ?_ hHeld ?_
    rotate_left
    · (intro w hSw; (try dsimp only at hSw); go_simp; try with_reducible rfl)
    try simp only [Act.put, List.getElem_toArray, List.getElem_cons_succ, List.getElem_cons_zero, List.setIfInBounds_toArray, List.set_cons_zero, List.set_cons_succ]
    refine wpAnyL_take 5 ?_ rfl (by rfl) ?_ hHeld ?_
    rotate_left
    · (intro w hSw; (try dsimp only at hSw); go_simp; try with_reducible rfl)
    try simp only [Act.put, List.getElem_toArray, List.getElem_cons_succ, List.getElem_cons_zero, List.setIfInBounds_toArray, List.set_cons_zero, List.set_cons_succ]
    refine wpAnyL_take 8 ?_ rfl (by rfl) ?_ hHeld ?_
    rotate_left
    · (intro w hSw; (try dsimp only at hSw); go_simp; try with_reducible rfl)
    try simp only [Act.put, List.getElem_toArray, List.getElem_cons_succ, List.getElem_cons_zero, List.setIfInBounds_toArray, List.set_cons_zero, List.set_cons_succ]
    refine wpAnyL_take 9 ?_ rfl (by rfl) ?_ hHeld ?_
    rotate_left
    · (intro w hSw; (try dsimp only at hSw); go_simp; try with_reducible rfl)
    try simp only [Act.put, List.getElem_toArray, List.getElem_cons_succ, List.getElem_cons_zero, List.setIfInBounds_toArray, List.set_cons_zero, List.set_cons_succ]
    refine wpAnyL_ready (rs := [3, 6]) (by kernel_rfl) (by simp) ?_
    refine AllReadyL.cons (o := _) rfl (fun K0 hK0 => ?_) (AllReadyL.cons (o := _) rfl (fun K0 hK0 => ?_) AllReadyL.nil)
    · go_simp
      refine hK0.out _ _ ((Y0.out.below (below_new v0 _)).cells) (fun hHeld => ?_)
      clear hK0 K0
      try simp only [Act.put, List.getElem_toArray, List.getElem_cons_succ, List.getElem_cons_zero, List.setIfInBounds_toArray, List.set_cons_zero, List.set_cons_succ]
      obtain ⟨u1, hu1⟩ : ∃ V, V = v0.alloc (.cells #[.int .i64 4, .int .i64 5, .int .i64 0] 2) := ⟨_, rfl⟩
      obtain ⟨pa, hpa⟩ : ∃ s, s = v0.heap.size := ⟨_, rfl⟩
      have Y1 : Hid (SX w u1 g A k c (a2 + 1) so b5 B c' xs) := by rw [hu1]; exact Y0.out.below (below_new v0 _)
      have La1 : Hid (Sl u1 pa (pa + 1) (some ⟨pa, 0, none⟩) 3 (fun j => .int .i64 (gi [4, 5, 0] j))) := by rw [hu1, hpa]; exact sl_new v0 _ _ [4, 5, 0] 3 (fun j hj => by rcases (show j = 0 ∨ j = 1 ∨ j = 2 by omega) with rfl | rfl | rfl <;> rfl)
      have Za1 : Hid (g < pa ∧ pa < u1.heap.size) := by have := Y0.out.sr.lt; rw [hu1, hpa]; show _ ∧ _; simp; omega
      rw [← hu1] at hHeld ⊢
      rw [← hpa]
      clear hu1 hpa
      refine wpAnyL_ready (rs := [4, 6]) (by kernel_rfl) (by simp) ?_
      refine AllReadyL.cons (o := _) rfl (fun K0 hK0 => ?_) (AllReadyL.cons (o := _) rfl (fun K0 hK0 => ?_) AllReadyL.nil)
      · go_simp
        refine (l1Pick_any lo (min hi w.heap.size) g pa (pa + 1) A (some ⟨pa, 0, none⟩) k c (a2 + 1) 3 3 b [4, 5, 0] u1 hk (by omega) HBY.out (CD.out u1 Y1.out.on) (by omega) Y1.out.sr rfl (by omega) (by omega) La1.out Za1.out.1 Za1.out.2).mono ?_
        rintro e9 u2 ⟨r9, hr9, rfl, hs9, ho9⟩
        generalize gi [4, 5, 0] r9 = v1 at *
        have Y2 := Lib.hid (Y1.out.step hs9 ho9)
        clear hr9 hs9 ho9
        go_wp2_with fail
        refine hK0.out _ _ (Y2.out.cells) (fun hHeld => ?_)
        clear hK0 K0
        try simp only [Act.put, List.getElem_toArray, List.getElem_cons_succ, List.getElem_cons_zero, List.setIfInBounds_toArray, List.set_cons_zero, List.set_cons_succ]
        refine wpAnyL_ready (rs := [6]) (by kernel_rfl) (by simp) ?_
        refine AllReadyL.cons (o := _) rfl (fun K0 hK0 => ?_) AllReadyL.nil
        go_simp
        refine hK0.out _ _ ((Y2.out.below (below_new u2 _)).cells) (fun hHeld => ?_)
        clear hK0 K0
        try simp only [Act.put, List.getElem_toArray, List.getElem_cons_succ, List.getElem_cons_zero, List.setIfInBounds_toArray, List.set_cons_zero, List.set_cons_succ]
        obtain ⟨u3, hu3⟩ : ∃ V, V = u2.alloc (.cells #[.int .i64 1, .int .i64 0, .int .i64 11] 2) := ⟨_, rfl⟩
        obtain ⟨pb, hpb⟩ : ∃ s, s = u2.heap.size := ⟨_, rfl⟩
        have Y3 : Hid (SX w u3 g A k c (a2 + 1 + 1) so b5 B c' xs) := by rw [hu3]; exact Y2.out.below (below_new u2 _)
        have Lb3 : Hid (Sl u3 pb (pb + 1) (some ⟨pb, 0, none⟩) 3 (fun j => .int .i64 (gi [1, 0, 11] j))) := by rw [hu3, hpb]; exact sl_new u2 _ _ [1, 0, 11] 3 (fun j hj => by rcases (show j = 0 ∨ j = 1 ∨ j = 2 by omega) with rfl | rfl | rfl <;> rfl)
        have Zb3 : Hid (g < pb ∧ pb < u3.heap.size) := by have := Y2.out.sr.lt; rw [hu3, hpb]; show _ ∧ _; simp; omega
        rw [← hu3] at hHeld ⊢
        rw [← hpb]
        clear hu3 hpb
        refine wpAnyL_ready (rs := [7]) (by kernel_rfl) (by simp) ?_
        refine AllReadyL.cons (o := _) rfl (fun K0 hK0 => ?_) AllReadyL.nil
        go_simp
        refine (l1Pick_any lo (min hi w.heap.size) g pb (pb + 1) A (some ⟨pb, 0, none⟩) k c (a2 + 1 + 1) 3 3 b [1, 0, 11] u3 hk (by omega) HBY.out (CD.out u3 Y3.out.on) (by omega) Y3.out.sr rfl (by omega) (by omega) Lb3.out Zb3.out.1 Zb3.out.2).mono ?_
        rintro e9 u4 ⟨r9, hr9, rfl, hs9, ho9⟩
        generalize gi [1, 0, 11] r9 = v2 at *
        have Y4 := Lib.hid (Y3.out.step hs9 ho9)
        clear hr9 hs9 ho9
        go_wp2_with fail
        refine hK0.out _ _ (Y4.out.cells) (fun hHeld => ?_)
        clear hK0 K0
        try simp only [Act.put, List.getElem_toArray, List.getElem_cons_succ, List.getElem_cons_zero, List.setIfInBounds_toArray, List.set_cons_zero, List.set_cons_succ]
        refine wpAnyL_take 10 ?_ rfl (by rfl) ?_ hHeld ?_
        rotate_left
        · (intro w hSw; (try dsimp only at hSw); go_simp; try with_reducible rfl)
        try simp only [Act.put, List.getElem_toArray, List.getElem_cons_succ, List.getElem_cons_zero, List.setIfInBounds_toArray, List.set_cons_zero, List.set_cons_succ]
        refine wpAnyL_ready (rs := [11]) (by kernel_rfl) (by simp) ?_
        refine AllReadyL.cons (o := _) rfl (fun K0 hK0 => ?_) AllReadyL.nil
        go_simp
        refine hK0.out _ _ ((Y4.out.below (below_new u4 _)).cells) (fun hHeld => ?_)
        clear hK0 K0
        try simp only [Act.put, List.getElem_toArray, List.getElem_cons_succ, List.getElem_cons_zero, List.setIfInBounds_toArray, List.set_cons_zero, List.set_cons_succ]
        obtain ⟨wl, hwl⟩ : ∃ V, V = u4.alloc (.cells #[.int .i64 v1, .int .i64 v2, .int .i64 b5] 52) := ⟨_, rfl⟩
        obtain ⟨y, hy⟩ : ∃ s, s = u4.heap.size := ⟨_, rfl⟩
        have JL : Hid (SX w wl g A k c (a2 + 1 + 1 + 1) so b5 B c' xs) := by rw [hwl]; exact Y4.out.below (below_new u4 _)
        have NW : Hid (∀ j u, [Value.int .i64 v1, .int .i64 v2, .int .i64 b5][j]? = some u → wl.cell? ((⟨y, 0, none⟩ : Addr).add j) = some u) := by rw [hwl, hy]; exact fun j u h => cell_three_new u4 _ _ _ _ j u h
        rw [← hwl] at hHeld ⊢
        rw [← hy]
        clear hwl hy
        obtain ⟨i0, hi0, hz0, hz1, hz2⟩ := info_parts infoReady
        refine wpAnyL_ready (rs := [12]) (by kernel_rfl) (by simp) ?_
        refine AllReadyL.cons (o := _) rfl (fun K0 hK0 => ?_) AllReadyL.nil
        refine step_append_lies _ rfl (.tmp 24) (.tmp 34) 41 rfl w.heap.size 52 i0 (.agg #[.int .i64 0, .int .i64 0, .int .i64 0]) 3 24 Try.underlying41 hi0 hz0 hz1 hz2 rfl (by decide) (.slice B xs.length c') xs.length (vals (fl xs)) rfl JL.out.ow ⟨y, 0, none⟩ 1 1 [.int .i64 v1, .int .i64 v2, .int .i64 b5] rfl rfl NW.out (by simp [Value.oneCell']) (by decide) (by unfold maxLen; omega) (by omega) (by have := JL.out.lt; have := JL.out.so; omega) _ rfl ?_
        intro g7 cap w7 hown hgrow hat hlt
        obtain ⟨hk7, hya⟩ := JL.out.app hown hgrow
        obtain ⟨ys, hyl, _, hyj⟩ := hya 0
        have K7 := Lib.hid hk7
        have JY := Lib.hid hyj
        rw [← hyl]
        have HYL : Hid (ys.length ≤ 6) := by show _ ≤ _; omega
        clear hown hgrow hat hlt hya hyj hyl hk7 NW hi0 hz0 hz1 hz2
        refine hK0.out _ _ (⟨cell_of_row w7 so 0 _ _ _ K7.out, cell_of_row w7 so 1 _ _ _ K7.out⟩) (fun hHeld => ?_)
        clear hK0 K0
        try simp only [Act.put, List.getElem_toArray, List.getElem_cons_succ, List.getElem_cons_zero, List.setIfInBounds_toArray, List.set_cons_zero, List.set_cons_succ]
        refine wpAnyL_take 13 ?_ rfl (by rfl) ?_ hHeld ?_
        rotate_left
        · (intro w hSw; (try dsimp only at hSw); go_simp; try with_reducible rfl)
        try simp only [Act.put, List.getElem_toArray, List.getElem_cons_succ, List.getElem_cons_zero, List.setIfInBounds_toArray, List.set_cons_zero, List.set_cons_succ]
        refine wpAnyL_ready (rs := [14]) (by kernel_rfl) (by simp) ?_
        refine AllReadyL.last (o := _) rfl (fun K0 hK0 => ?_)
        have c1 := cell_of_row w7 _ 1 _ _ _ K7.out; have f1 := frozen_of_row w7 _ 1 _ _ K7.out
        simp at c1
        clear hHeld
        go_simp
        refine hK0.out _ _ ?_
        clear hK0 K0
        try simp only [Act.put, List.getElem_toArray, List.getElem_cons_succ, List.getElem_cons_zero, List.setIfInBounds_toArray, List.set_cons_zero, List.set_cons_succ]
        refine wpAnyL_done (by kernel_rfl) ?_ _
        clear c1 f1 K7
        go_upto_region 13 with (fail)
        obtain ⟨wz, hwz⟩ : ∃ V, V = w7.setCell ⟨so, 1, none⟩ (.slice (some ⟨g7, 0, none⟩) ys.length cap) := ⟨_, rfl⟩
        rw [← hwz]
        have JZ : Hid (SX w wz g A k c (a2 + 1 + 1 + 1) so b5 (some ⟨g7, 0, none⟩) cap ys) := by rw [hwz]; exact JY.out
        clear hwz
        have q0 := cell_of_row wz _ 0 _ _ _ JZ.out.bx; have q1 := cell_of_row wz _ 1 _ _ _ JZ.out.bx
        have f0 := frozen_of_row wz _ 0 _ _ JZ.out.bx; have f1 := frozen_of_row wz _ 1 _ _ JZ.out.bx
        simp at q0 q1
        have r0 := cell_of_row wz _ 0 _ _ _ JZ.out.rb; have r1 := cell_of_row wz _ 1 _ _ _ JZ.out.rb
        have t0 := frozen_of_row wz _ 0 _ _ JZ.out.rb; have t1 := frozen_of_row wz _ 1 _ _ JZ.out.rb
        simp at r0 r1
        have sw := JZ.out.so
        go_wp2
        refine bodyPost_ret (results_cell_row rfl _ _ w.heap.size _ _ (0, 0) _ rfl (heap_setCell_same _ _ 1 _ _ _ (heap_setCell_same _ _ 0 _ _ _ JZ.out.rb)) Try.underlying43 rfl (by kernel_rfl)) rfl ?_
        exact ⟨b5, some ⟨g7, 0, none⟩, cap, ys, a2 + 1 + 1 + 1, rfl, HYL.out, by omega, trivial, JZ.out.fin⟩
      · go_simp
        refine hK0.out _ _ ((Y1.out.below (below_new u1 _)).cells) (fun hHeld => ?_)
        clear hK0 K0
        try simp only [Act.put, List.getElem_toArray, List.getElem_cons_succ, List.getElem_cons_zero, List.setIfInBounds_toArray, List.set_cons_zero, List.set_cons_succ]
        obtain ⟨u2, hu2⟩ : ∃ V, V = u1.alloc (.cells #[.int .i64 1, .int .i64 0, .int .i64 11] 2) := ⟨_, rfl⟩
        obtain ⟨pb, hpb⟩ : ∃ s, s = u1.heap.size := ⟨_, rfl⟩
        have Y2 : Hid (SX w u2 g A k c (a2 + 1) so b5 B c' xs) := by rw [hu2]; exact Y1.out.below (below_new u1 _)
        have Lb2 : Hid (Sl u2 pb (pb + 1) (some ⟨pb, 0, none⟩) 3 (fun j => .int .i64 (gi [1, 0, 11] j))) := by rw [hu2, hpb]; exact sl_new u1 _ _ [1, 0, 11] 3 (fun j hj => by rcases (show j = 0 ∨ j = 1 ∨ j = 2 by omega) with rfl | rfl | rfl <;> rfl)
        have Zb2 : Hid (g < pb ∧ pb < u2.heap.size) := by have := Y1.out.sr.lt; rw [hu2, hpb]; show _ ∧ _; simp; omega
        have La2 : Hid (Sl u2 pa (pa + 1) (some ⟨pa, 0, none⟩) 3 (fun j => .int .i64 (gi [4, 5, 0] j))) := by rw [hu2]; exact La1.out.below (below_new u1 _) (by have := Za1.out; omega)
        have Za2 : Hid (g < pa ∧ pa < u2.heap.size) := by have := Za1.out; rw [hu2]; show _ ∧ _; simp; omega
        rw [← hu2] at hHeld ⊢
        rw [← hpb]
        clear hu2 hpb
        refine wpAnyL_ready (rs := [4]) (by kernel_rfl) (by simp) ?_
        refine AllReadyL.cons (o := _) rfl (fun K0 hK0 => ?_) AllReadyL.nil
        go_simp
        refine (l1Pick_any lo (min hi w.heap.size) g pa (pa + 1) A (some ⟨pa, 0, none⟩) k c (a2 + 1) 3 3 b [4, 5, 0] u2 hk (by omega) HBY.out (CD.out u2 Y2.out.on) (by omega) Y2.out.sr rfl (by omega) (by omega) La2.out Za2.out.1 Za2.out.2).mono ?_
        rintro e9 u3 ⟨r9, hr9, rfl, hs9, ho9⟩
        generalize gi [4, 5, 0] r9 = v1 at *
        have Y3 := Lib.hid (Y2.out.step hs9 ho9)
        have Lb3 := Lib.hid (Lb2.out.only ho9 Zb2.out.2 (.inr (by have := Zb2.out; omega)))
        have Zb3 : Hid (g < pb ∧ pb < u3.heap.size) := by have := Zb2.out; have := ho9.1.size; show _ ∧ _; omega
        clear hr9 hs9 ho9
        go_wp2_with fail
        refine hK0.out _ _ (Y3.out.cells) (fun hHeld => ?_)
        clear hK0 K0
        try simp only [Act.put, List.getElem_toArray, List.getElem_cons_succ, List.getElem_cons_zero, List.setIfInBounds_toArray, List.set_cons_zero, List.set_cons_succ]
        refine wpAnyL_ready (rs := [7]) (by kernel_rfl) (by simp) ?_
        refine AllReadyL.cons (o := _) rfl (fun K0 hK0 => ?_) AllReadyL.nil
        go_simp
        refine (l1Pick_any lo (min hi w.heap.size) g pb (pb + 1) A (some ⟨pb, 0, none⟩) k c (a2 + 1 + 1) 3 3 b [1, 0, 11] u3 hk (by omega) HBY.out (CD.out u3 Y3.out.on) (by omega) Y3.out.sr rfl (by omega) (by omega) Lb3.out Zb3.out.1 Zb3.out.2).mono ?_
        rintro e9 u4 ⟨r9, hr9, rfl, hs9, ho9⟩
        generalize gi [1, 0, 11] r9 = v2 at *
        have Y4 := Lib.hid (Y3.out.step hs9 ho9)
        clear hr9 hs9 ho9
        go_wp2_with fail
        refine hK0.out _ _ (Y4.out.cells) (fun hHeld => ?_)
        clear hK0 K0
        try simp only [Act.put, List.getElem_toArray, List.getElem_cons_succ, List.getElem_cons_zero, List.setIfInBounds_toArray, List.set_cons_zero, List.set_cons_succ]
        refine wpAnyL_take 10 ?_ rfl (by rfl) ?_ hHeld ?_
        rotate_left
        · (intro w hSw; (try dsimp only at hSw); go_simp; try with_reducible rfl)
        try simp only [Act.put, List.getElem_toArray, List.getElem_cons_succ, List.getElem_cons_zero, List.setIfInBounds_toArray, List.set_cons_zero, List.set_cons_succ]
        refine wpAnyL_ready (rs := [11]) (by kernel_rfl) (by simp) ?_
        refine AllReadyL.cons (o := _) rfl (fun K0 hK0 => ?_) AllReadyL.nil
        go_simp
        refine hK0.out _ _ ((Y4.out.below (below_new u4 _)).cells) (fun hHeld => ?_)
        clear hK0 K0
        try simp only [Act.put, List.getElem_toArray, List.getElem_cons_succ, List.getElem_cons_zero, List.setIfInBounds_toArray, List.set_cons_zero, List.set_cons_succ]
        obtain ⟨wl, hwl⟩ : ∃ V, V = u4.alloc (.cells #[.int .i64 v1, .int .i64 v2, .int .i64 b5] 52) := ⟨_, rfl⟩
        obtain ⟨y, hy⟩ : ∃ s, s = u4.heap.size := ⟨_, rfl⟩
        have JL : Hid (SX w wl g A k c (a2 + 1 + 1 + 1) so b5 B c' xs) := by rw [hwl]; exact Y4.out.below (below_new u4 _)
        have NW : Hid (∀ j u, [Value.int .i64 v1, .int .i64 v2, .int .i64 b5][j]? = some u → wl.cell? ((⟨y, 0, none⟩ : Addr).add j) = some u) := by rw [hwl, hy]; exact fun j u h => cell_three_new u4 _ _ _ _ j u h
        rw [← hwl] at hHeld ⊢
        rw [← hy]
        clear hwl hy
        obtain ⟨i0, hi0, hz0, hz1, hz2⟩ := info_parts infoReady
        refine wpAnyL_ready (rs := [12]) (by kernel_rfl) (by simp) ?_
        refine AllReadyL.cons (o := _) rfl (fun K0 hK0 => ?_) AllReadyL.nil
        refine step_append_lies _ rfl (.tmp 24) (.tmp 34) 41 rfl w.heap.size 52 i0 (.agg #[.int .i64 0, .int .i64 0, .int .i64 0]) 3 24 Try.underlying41 hi0 hz0 hz1 hz2 rfl (by decide) (.slice B xs.length c') xs.length (vals (fl xs)) rfl JL.out.ow ⟨y, 0, none⟩ 1 1 [.int .i64 v1, .int .i64 v2, .int .i64 b5] rfl rfl NW.out (by simp [Value.oneCell']) (by decide) (by unfold maxLen; omega) (by omega) (by have := JL.out.lt; have := JL.out.so; omega) _ rfl ?_
        intro g7 cap w7 hown hgrow hat hlt
        obtain ⟨hk7, hya⟩ := JL.out.app hown hgrow
        obtain ⟨ys, hyl, _, hyj⟩ := hya 0
        have K7 := Lib.hid hk7
        have JY := Lib.hid hyj
        rw [← hyl]
        have HYL : Hid (ys.length ≤ 6) := by show _ ≤ _; omega
        clear hown hgrow hat hlt hya hyj hyl hk7 NW hi0 hz0 hz1 hz2
        refine hK0.out _ _ (⟨cell_of_row w7 so 0 _ _ _ K7.out, cell_of_row w7 so 1 _ _ _ K7.out⟩) (fun hHeld => ?_)
        clear hK0 K0
        try simp only [Act.put, List.getElem_toArray, List.getElem_cons_succ, List.getElem_cons_zero, List.setIfInBounds_toArray, List.set_cons_zero, List.set_cons_succ]
        refine wpAnyL_take 13 ?_ rfl (by rfl) ?_ hHeld ?_
        rotate_left
        · (intro w hSw; (try dsimp only at hSw); go_simp; try with_reducible rfl)
        try simp only [Act.put, List.getElem_toArray, List.getElem_cons_succ, List.getElem_cons_zero, List.setIfInBounds_toArray, List.set_cons_zero, List.set_cons_succ]
        refine wpAnyL_ready (rs := [14]) (by kernel_rfl) (by simp) ?_
        refine AllReadyL.last (o := _) rfl (fun K0 hK0 => ?_)
        have c1 := cell_of_row w7 _ 1 _ _ _ K7.out; have f1 := frozen_of_row w7 _ 1 _ _ K7.out
        simp at c1
        clear hHeld
        go_simp
        refine hK0.out _ _ ?_
        clear hK0 K0
        try simp only [Act.put, List.getElem_toArray, List.getElem_cons_succ, List.getElem_cons_zero, List.setIfInBounds_toArray, List.set_cons_zero, List.set_cons_succ]
        refine wpAnyL_done (by kernel_rfl) ?_ _
        clear c1 f1 K7
        go_upto_region 13 with (fail)
        obtain ⟨wz, hwz⟩ : ∃ V, V = w7.setCell ⟨so, 1, none⟩ (.slice (some ⟨g7, 0, none⟩) ys.length cap) := ⟨_, rfl⟩
        rw [← hwz]
        have JZ : Hid (SX w wz g A k c (a2 + 1 + 1 + 1) so b5 (some ⟨g7, 0, none⟩) cap ys) := by rw [hwz]; exact JY.out
        clear hwz
        have q0 := cell_of_row wz _ 0 _ _ _ JZ.out.bx; have q1 := cell_of_row wz _ 1 _ _ _ JZ.out.bx
        have f0 := frozen_of_row wz _ 0 _ _ JZ.out.bx; have f1 := frozen_of_row wz _ 1 _ _ JZ.out.bx
        simp at q0 q1
        have r0 := cell_of_row wz _ 0 _ _ _ JZ.out.rb; have r1 := cell_of_row wz _ 1 _ _ _ JZ.out.rb
        have t0 := frozen_of_row wz _ 0 _ _ JZ.out.rb; have t1 := frozen_of_row wz _ 1 _ _ JZ.out.rb
        simp at r0 r1
        have sw := JZ.out.so
        go_wp2
        refine bodyPost_ret (results_cell_row rfl _ _ w.heap.size _ _ (0, 0) _ rfl (heap_setCell_same _ _ 1 _ _ _ (heap_setCell_same _ _ 0 _ _ _ JZ.out.rb)) Try.underlying43 rfl (by kernel_rfl)) rfl ?_
        exact ⟨b5, some ⟨g7, 0, none⟩, cap, ys, a2 + 1 + 1 + 1, rfl, HYL.out, by omega, trivial, JZ.out.fin⟩
    · go_simp
      refine hK0.out _ _ ((Y0.out.below (below_new v0 _)).cells) (fun hHeld => ?_)
      clear hK0 K0
      try simp only [Act.put, List.getElem_toArray, List.getElem_cons_succ, List.getElem_cons_zero, List.setIfInBounds_toArray, List.set_cons_zero, List.set_cons_succ]
      obtain ⟨u1, hu1⟩ : ∃ V, V = v0.alloc (.cells #[.int .i64 1, .int .i64 0, .int .i64 11] 2) := ⟨_, rfl⟩
      obtain ⟨pb, hpb⟩ : ∃ s, s = v0.heap.size := ⟨_, rfl⟩
      have Y1 : Hid (SX w u1 g A k c (a2 + 1) so b5 B c' xs) := by rw [hu1]; exact Y0.out.below (below_new v0 _)
      have Lb1 : Hid (Sl u1 pb (pb + 1) (some ⟨pb, 0, none⟩) 3 (fun j => .int .i64 (gi [1, 0, 11] j))) := by rw [hu1, hpb]; exact sl_new v0 _ _ [1, 0, 11] 3 (fun j hj => by rcases (show j = 0 ∨ j = 1 ∨ j = 2 by omega) with rfl | rfl | rfl <;> rfl)
      have Zb1 : Hid (g < pb ∧ pb < u1.heap.size) := by have := Y0.out.sr.lt; rw [hu1, hpb]; show _ ∧ _; simp; omega
      rw [← hu1] at hHeld ⊢
      rw [← hpb]
      clear hu1 hpb
      refine wpAnyL_ready (rs := [3]) (by kernel_rfl) (by simp) ?_
      refine AllReadyL.cons (o := _) rfl (fun K0 hK0 => ?_) AllReadyL.nil
      go_simp
      refine hK0.out _ _ ((Y1.out.below (below_new u1 _)).cells) (fun hHeld => ?_)
      clear hK0 K0
      try simp only [Act.put, List.getElem_toArray, List.getElem_cons_succ, List.getElem_cons_zero, List.setIfInBounds_toArray, List.set_cons_zero, List.set_cons_succ]
      obtain ⟨u2, hu2⟩ : ∃ V, V = u1.alloc (.cells #[.int .i64 4, .int .i64 5, .int .i64 0] 2) := ⟨_, rfl⟩
      obtain ⟨pa, hpa⟩ : ∃ s, s = u1.heap.size := ⟨_, rfl⟩
      have Y2 : Hid (SX w u2 g A k c (a2 + 1) so b5 B c' xs) := by rw [hu2]; exact Y1.out.below (below_new u1 _)
      have La2 : Hid (Sl u2 pa (pa + 1) (some ⟨pa, 0, none⟩) 3 (fun j => .int .i64 (gi [4, 5, 0] j))) := by rw [hu2, hpa]; exact sl_new u1 _ _ [4, 5, 0] 3 (fun j hj => by rcases (show j = 0 ∨ j = 1 ∨ j = 2 by omega) with rfl | rfl | rfl <;> rfl)
      have Za2 : Hid (g < pa ∧ pa < u2.heap.size) := by have := Y1.out.sr.lt; rw [hu2, hpa]; show _ ∧ _; simp; omega
      have Lb2 : Hid (Sl u2 pb (pb + 1) (some ⟨pb, 0, none⟩) 3 (fun j => .int .i64 (gi [1, 0, 11] j))) := by rw [hu2]; exact Lb1.out.below (below_new u1 _) (by have := Zb1.out; omega)
      have Zb2 : Hid (g < pb ∧ pb < u2.heap.size) := by have := Zb1.out; rw [hu2]; show _ ∧ _; simp; omega
      rw [← hu2] at hHeld ⊢
      rw [← hpa]
      clear hu2 hpa
      refine wpAnyL_ready (rs := [4]) (by kernel_rfl) (by simp) ?_
      refine AllReadyL.cons (o := _) rfl (fun K0 hK0 => ?_) AllReadyL.nil
      go_simp
      refine (l1Pick_any lo (min hi w.heap.size) g pa (pa + 1) A (some ⟨pa, 0, none⟩) k c (a2 + 1) 3 3 b [4, 5, 0] u2 hk (by omega) HBY.out (CD.out u2 Y2.out.on) (by omega) Y2.out.sr rfl (by omega) (by omega) La2.out Za2.out.1 Za2.out.2).mono ?_
      rintro e9 u3 ⟨r9, hr9, rfl, hs9, ho9⟩
      generalize gi [4, 5, 0] r9 = v1 at *
      have Y3 := Lib.hid (Y2.out.step hs9 ho9)
      have Lb3 := Lib.hid (Lb2.out.only ho9 Zb2.out.2 (.inr (by have := Zb2.out; omega)))
      have Zb3 : Hid (g < pb ∧ pb < u3.heap.size) := by have := Zb2.out; have := ho9.1.size; show _ ∧ _; omega
      clear hr9 hs9 ho9
      go_wp2_with fail
      refine hK0.out _ _ (Y3.out.cells) (fun hHeld => ?_)
      clear hK0 K0
      try simp only [Act.put, List.getElem_toArray, List.getElem_cons_succ, List.getElem_cons_zero, List.setIfInBounds_toArray, List.set_cons_zero, List.set_cons_succ]
      refine wpAnyL_ready (rs := [7]) (by kernel_rfl) (by simp) ?_
      refine AllReadyL.cons (o := _) rfl (fun K0 hK0 => ?_) AllReadyL.nil
      go_simp
      refine (l1Pick_any lo (min hi w.heap.size) g pb (pb + 1) A (some ⟨pb, 0, none⟩) k c (a2 + 1 + 1) 3 3 b [1, 0, 11] u3 hk (by omega) HBY.out (CD.out u3 Y3.out.on) (by omega) Y3.out.sr rfl (by omega) (by omega) Lb3.out Zb3.out.1 Zb3.out.2).mono ?_
      rintro e9 u4 ⟨r9, hr9, rfl, hs9, ho9⟩
      generalize gi [1, 0, 11] r9 = v2 at *
      have Y4 := Lib.hid (Y3.out.step hs9 ho9)
      clear hr9 hs9 ho9
      go_wp2_with fail
      refine hK0.out _ _ (Y4.out.cells) (fun hHeld => ?_)
      clear hK0 K0
      try simp only [Act.put, List.getElem_toArray, List.getElem_cons_succ, List.getElem_cons_zero, List.setIfInBounds_toArray, List.set_cons_zero, List.set_cons_succ]
      refine wpAnyL_take 10 ?_ rfl (by rfl) ?_ hHeld ?_
      rotate_left
      · (intro w hSw; (try dsimp only at hSw); go_simp; try with_reducible rfl)
      try simp only [Act.put, List.getElem_toArray, List.getElem_cons_succ, List.getElem_cons_zero, List.setIfInBounds_toArray, List.set_cons_zero, List.set_cons_succ]
      refine wpAnyL_ready (rs := [11]) (by kernel_rfl) (by simp) ?_
      refine AllReadyL.cons (o := _) rfl (fun K0 hK0 => ?_) AllReadyL.nil
      go_simp
      refine hK0.out _ _ ((Y4.out.below (below_new u4 _)).cells) (fun hHeld => ?_)
      clear hK0 K0
      try simp only [Act.put, List.getElem_toArray, List.getElem_cons_succ, List.getElem_cons_zero, List.setIfInBounds_toArray, List.set_cons_zero, List.set_cons_succ]
      obtain ⟨wl, hwl⟩ : ∃ V, V = u4.alloc (.cells #[.int .i64 v1, .int .i64 v2, .int .i64 b5] 52) := ⟨_, rfl⟩
      obtain ⟨y, hy⟩ : ∃ s, s = u4.heap.size := ⟨_, rfl⟩
      have JL : Hid (SX w wl g A k c (a2 + 1 + 1 + 1) so b5 B c' xs) := by rw [hwl]; exact Y4.out.below (below_new u4 _)
      have NW : Hid (∀ j u, [Value.int .i64 v1, .int .i64 v2, .int .i64 b5][j]? = some u → wl.cell? ((⟨y, 0, none⟩ : Addr).add j) = some u) := by rw [hwl, hy]; exact fun j u h => cell_three_new u4 _ _ _ _ j u h
      rw [← hwl] at hHeld ⊢
      rw [← hy]
      clear hwl hy
      obtain ⟨i0, hi0, hz0, hz1, hz2⟩ := info_parts infoReady
      refine wpAnyL_ready (rs := [12]) (by kernel_rfl) (by simp) ?_
      refine AllReadyL.cons (o := _) rfl (fun K0 hK0 => ?_) AllReadyL.nil
      refine step_append_lies _ rfl (.tmp 24) (.tmp 34) 41 rfl w.heap.size 52 i0 (.agg #[.int .i64 0, .int .i64 0, .int .i64 0]) 3 24 Try.underlying41 hi0 hz0 hz1 hz2 rfl (by decide) (.slice B xs.length c') xs.length (vals (fl xs)) rfl JL.out.ow ⟨y, 0, none⟩ 1 1 [.int .i64 v1, .int .i64 v2, .int .i64 b5] rfl rfl NW.out (by simp [Value.oneCell']) (by decide) (by unfold maxLen; omega) (by omega) (by have := JL.out.lt; have := JL.out.so; omega) _ rfl ?_
      intro g7 cap w7 hown hgrow hat hlt
      obtain ⟨hk7, hya⟩ := JL.out.app hown hgrow
      obtain ⟨ys, hyl, _, hyj⟩ := hya 0
      have K7 := Lib.hid hk7
      have JY := Lib.hid hyj
      rw [← hyl]
      have HYL : Hid (ys.length ≤ 6) := by show _ ≤ _; omega
      clear hown hgrow hat hlt hya hyj hyl hk7 NW hi0 hz0 hz1 hz2
      refine hK0.out _ _ (⟨cell_of_row w7 so 0 _ _ _ K7.out, cell_of_row w7 so 1 _ _ _ K7.out⟩) (fun hHeld => ?_)
      clear hK0 K0
      try simp only [Act.put, List.getElem_toArray, List.getElem_cons_succ, List.getElem_cons_zero, List.setIfInBounds_toArray, List.set_cons_zero, List.set_cons_succ]
      refine wpAnyL_take 13 ?_ rfl (by rfl) ?_ hHeld ?_
      rotate_left
      · (intro w hSw; (try dsimp only at hSw); go_simp; try with_reducible rfl)
      try simp only [Act.put, List.getElem_toArray, List.getElem_cons_succ, List.getElem_cons_zero, List.setIfInBounds_toArray, List.set_cons_zero, List.set_cons_succ]
      refine wpAnyL_ready (rs := [14]) (by kernel_rfl) (by simp) ?_
      refine AllReadyL.last (o := _) rfl (fun K0 hK0 => ?_)
      have c1 := cell_of_row w7 _ 1 _ _ _ K7.out; have f1 := frozen_of_row w7 _ 1 _ _ K7.out
      simp at c1
      clear hHeld
      go_simp
      refine hK0.out _ _ ?_
      clear hK0 K0
      try simp only [Act.put, List.getElem_toArray, List.getElem_cons_succ, List.getElem_cons_zero, List.setIfInBounds_toArray, List.set_cons_zero, List.set_cons_succ]
      refine wpAnyL_done (by kernel_rfl) ?_ _
      clear c1 f1 K7
      go_upto_region 13 with (fail)
      obtain ⟨wz, hwz⟩ : ∃ V, V = w7.setCell ⟨so, 1, none⟩ (.slice (some ⟨g7, 0, none⟩) ys.length cap) := ⟨_, rfl⟩
      rw [← hwz]
      have JZ : Hid (SX w wz g A k c (a2 + 1 + 1 + 1) so b5 (some ⟨g7, 0, none⟩) cap ys) := by rw [hwz]; exact JY.out
      clear hwz
      have q0 := cell_of_row wz _ 0 _ _ _ JZ.out.bx; have q1 := cell_of_row wz _ 1 _ _ _ JZ.out.bx
      have f0 := frozen_of_row wz _ 0 _ _ JZ.out.bx; have f1 := frozen_of_row wz _ 1 _ _ JZ.out.bx
      simp at q0 q1
      have r0 := cell_of_row wz _ 0 _ _ _ JZ.out.rb; have r1 := cell_of_row wz _ 1 _ _ _ JZ.out.rb
      have t0 := frozen_of_row wz _ 0 _ _ JZ.out.rb; have t1 := frozen_of_row wz _ 1 _ _ JZ.out.rb
      simp at r0 r1
      have sw := JZ.out.so
      go_wp2
      refine bodyPost_ret (results_cell_row rfl _ _ w.heap.size _ _ (0, 0) _ rfl (heap_setCell_same _ _ 1 _ _ _ (heap_setCell_same _ _ 0 _ _ _ JZ.out.rb)) Try.underlying43 rfl (by kernel_rfl)) rfl ?_
      exact ⟨b5, some ⟨g7, 0, none⟩, cap, ys, a2 + 1 + 1 + 1, rfl, HYL.out, by omega, trivial, JZ.out.fin⟩
  have n1 : ((r : Int) == 1) = false := by simp; omega
  by_cases e2 : r = 2
  · subst e2
    have n0 : (((2 : Nat) : Int) == 0) = false := by simp
    have n1 : (((2 : Nat) : Int) == 1) = false := by simp
    have n2 : (((2 : Nat) : Int) == 2) = true := by simp
    by_cases hx0 : 0 < xs.length
    rotate_left
    · have hxI : ¬ (0 : Int) < (xs.length : Int) := by omega
      go_upto_region 13 with (fail)
      have q0 := cell_of_row w4 _ 0 _ _ _ J4.out.bx; have q1 := cell_of_row w4 _ 1 _ _ _ J4.out.bx
      have f0 := frozen_of_row w4 _ 0 _ _ J4.out.bx; have f1 := frozen_of_row w4 _ 1 _ _ J4.out.bx
      simp at q0 q1
      have r0 := cell_of_row w4 _ 0 _ _ _ J4.out.rb; have r1 := cell_of_row w4 _ 1 _ _ _ J4.out.rb
      have t0 := frozen_of_row w4 _ 0 _ _ J4.out.rb; have t1 := frozen_of_row w4 _ 1 _ _ J4.out.rb
      simp at r0 r1
      have sw := J4.out.so
      go_wp2
      refine bodyPost_ret (results_cell_row rfl _ _ w.heap.size _ _ (0, 0) _ rfl (heap_setCell_same _ _ 1 _ _ _ (heap_setCell_same _ _ 0 _ _ _ J4.out.rb)) Try.underlying43 rfl (by kernel_rfl)) rfl ?_
      exact ⟨b5, B, c', xs, a2 + 1, rfl, by omega, by omega, trivial, J4.out.fin⟩
    have hxI : (0 : Int) < (xs.length : Int) := by omega
    obtain ⟨gB, rfl, hgB⟩ := J4.out.ow.pos hx0
    go_wp2_with fail
    refine wp_region_last (fun W => W.cell? ⟨so, 1, none⟩ = some (.slice (some ⟨gB, 0, none⟩) xs.length c') ∧ ∀ i, i < xs.length → W.cell? ⟨gB, i * 3 + 2, none⟩ = some (.int .i64 (psv xs i))) 14 (by kernel_rfl) (J4.out.passes) (fun hHeld => ?_)
    obtain ⟨v0, hv0⟩ : ∃ v0, v0 = w4.drew := ⟨_, rfl⟩
    have BL0 : Hid (Below w4.heap.size w4 v0) := by rw [hv0]; exact Below.drew (Below.refl _ _)
    rw [← hv0] at hHeld ⊢
    clear hv0
    have Y0 : Hid (SX w v0 g A k c (a2 + 1) so b5 (some ⟨gB, 0, none⟩) c' xs) := J4.out.below BL0.out
    clear J4 BL0
    refine wpAnyL_take 0 ?_ rfl (by rfl) ?_ hHeld ?_
    rotate_left
    · (intro w hSw; (try dsimp only at hSw); go_simp; try with_reducible rfl)
    try simp only [Act.put, List.getElem_toArray, List.getElem_cons_succ, List.getElem_cons_zero, List.setIfInBounds_toArray, List.set_cons_zero, List.set_cons_succ]
    refine wpAnyL_take 1 ?_ rfl (by rfl) ?_ hHeld ?_
    rotate_left
    · (intro w hSw; (try dsimp only at hSw); go_simp; try with_reducible rfl)
    try simp only [Act.put, List.getElem_toArray, List.getElem_cons_succ, List.getElem_cons_zero, List.setIfInBounds_toArray, List.set_cons_zero, List.set_cons_succ]
    refine wpAnyL_take 2 ?_ rfl (by rfl) ?_ hHeld ?_
    rotate_left
    · (intro w hSw; (try dsimp only at hSw); go_simp; try with_reducible rfl)
    try simp only [Act.put, List.getElem_toArray, List.getElem_cons_succ, List.getElem_cons_zero, List.setIfInBounds_toArray, List.set_cons_zero, List.set_cons_succ]
    refine wpAnyL_take 3 ?_ rfl (by rfl) ?_ hHeld ?_
    rotate_left
    · (intro w hSw; (try dsimp only at hSw); go_simp; try with_reducible rfl)
    try simp only [Act.put, List.getElem_toArray, List.getElem_cons_succ, List.getElem_cons_zero, List.setIfInBounds_toArray, List.set_cons_zero, List.set_cons_succ]
    refine wpAnyL_take 8 ?_ rfl (by rfl) ?_ hHeld ?_
    rotate_left
    · (intro w hSw; (try dsimp only at hSw); go_simp; try with_reducible rfl)
    try simp only [Act.put, List.getElem_toArray, List.getElem_cons_succ, List.getElem_cons_zero, List.setIfInBounds_toArray, List.set_cons_zero, List.set_cons_succ]
    refine wpAnyL_ready (rs := [4, 9]) (by kernel_rfl) (by simp) ?_
    refine AllReadyL.cons (o := _) rfl (fun K0 hK0 => ?_) (AllReadyL.cons (o := _) rfl (fun K0 hK0 => ?_) AllReadyL.nil)
    · go_simp
      refine (l1Next_any lo (min hi w.heap.size) g A k c (a2 + 1) ((xs.length : Int)) b v0 (by omega) hk (by omega) HBY.out (CD.out v0 Y0.out.on) (by omega) Y0.out.sr).mono ?_
      rintro e9 u1 ⟨ix, rfl, hr9, _, hs9, ho9⟩
      have Y1 := Lib.hid (Y0.out.step hs9 ho9)
      have hix : ix < xs.length := by have := hr9 (by omega); omega
      have hix0 : (0 : Int) ≤ (ix : Int) := by omega
      have hixI : (ix : Int) < (xs.length : Int) := by omega
      clear hr9 hs9 ho9
      go_wp2_with fail
      refine hK0.out _ _ (Y1.out.passes) (fun hHeld => ?_)
      clear hK0 K0
      try simp only [Act.put, List.getElem_toArray, List.getElem_cons_succ, List.getElem_cons_zero, List.setIfInBounds_toArray, List.set_cons_zero, List.set_cons_succ]
      refine wpAnyL_take 5 ?_ rfl (by rfl) ?_ hHeld ?_
      rotate_left
      · (intro w hSw; (try dsimp only at hSw); go_simp; try with_reducible rfl)
      try simp only [Act.put, List.getElem_toArray, List.getElem_cons_succ, List.getElem_cons_zero, List.setIfInBounds_toArray, List.set_cons_zero, List.set_cons_succ]
      refine wpAnyL_take 6 ?_ rfl (by rfl) ?_ hHeld ?_
      rotate_left
      · (intro w hSw; (try dsimp only at hSw); go_simp; try with_reducible rfl)
      try simp only [Act.put, List.getElem_toArray, List.getElem_cons_succ, List.getElem_cons_zero, List.setIfInBounds_toArray, List.set_cons_zero, List.set_cons_succ]
      refine wpAnyL_take 7 ?_ rfl (by rfl) ?_ hHeld ?_
      rotate_left
      · (intro w hSw; (try dsimp only at hSw); go_simp; try with_reducible rfl)
      try simp only [Act.put, List.getElem_toArray, List.getElem_cons_succ, List.getElem_cons_zero, List.setIfInBounds_toArray, List.set_cons_zero, List.set_cons_succ]
      refine wpAnyL_ready (rs := [9]) (by kernel_rfl) (by simp) ?_
      refine AllReadyL.cons (o := _) rfl (fun K0 hK0 => ?_) AllReadyL.nil
      go_simp
      refine hK0.out _ _ ((Y1.out.below (below_new u1 _)).passes) (fun hHeld => ?_)
      clear hK0 K0
      try simp only [Act.put, List.getElem_toArray, List.getElem_cons_succ, List.getElem_cons_zero, List.setIfInBounds_toArray, List.set_cons_zero, List.set_cons_succ]
      obtain ⟨u2, hu2⟩ : ∃ V, V = u1.alloc (.cells #[.int .i64 1, .int .i64 (-1), .int .i64 3000] 2) := ⟨_, rfl⟩
      obtain ⟨pa, hpa⟩ : ∃ s, s = u1.heap.size := ⟨_, rfl⟩
      have Y2 : Hid (SX w u2 g A k c (a2 + 1 + 1) so b5 (some ⟨gB, 0, none⟩) c' xs) := by rw [hu2]; exact Y1.out.below (below_new u1 _)
      have La2 : Hid (Sl u2 pa (pa + 1) (some ⟨pa, 0, none⟩) 3 (fun j => .int .i64 (gi [1, -1, 3000] j))) := by rw [hu2, hpa]; exact sl_new u1 _ _ [1, -1, 3000] 3 (fun j hj => by rcases (show j = 0 ∨ j = 1 ∨ j = 2 by omega) with rfl | rfl | rfl <;> rfl)
      have Za2 : Hid (g < pa ∧ pa < u2.heap.size) := by have := Y1.out.sr.lt; rw [hu2, hpa]; show _ ∧ _; simp; omega
      rw [← hu2] at hHeld ⊢
      rw [← hpa]
      clear hu2 hpa
      refine wpAnyL_ready (rs := [10]) (by kernel_rfl) (by simp) ?_
      refine AllReadyL.cons (o := _) rfl (fun K0 hK0 => ?_) AllReadyL.nil
      go_simp
      refine (l1Pick_any lo (min hi w.heap.size) g pa (pa + 1) A (some ⟨pa, 0, none⟩) k c (a2 + 1 + 1) 3 3 b [1, -1, 3000] u2 hk (by omega) HBY.out (CD.out u2 Y2.out.on) (by omega) Y2.out.sr rfl (by omega) (by omega) La2.out Za2.out.1 Za2.out.2).mono ?_
      rintro e9 u3 ⟨r9, hr9, rfl, hs9, ho9⟩
      generalize gi [1, -1, 3000] r9 = v1 at *
      have Y3 := Lib.hid (Y2.out.step hs9 ho9)
      clear hr9 hs9 ho9
      go_wp2_with fail
      refine hK0.out _ _ (Y3.out.passes) (fun hHeld => ?_)
      clear hK0 K0
      try simp only [Act.put, List.getElem_toArray, List.getElem_cons_succ, List.getElem_cons_zero, List.setIfInBounds_toArray, List.set_cons_zero, List.set_cons_succ]
      refine wpAnyL_take 11 ?_ rfl (by rfl) ?_ hHeld ?_
      rotate_left
      · (intro w hSw; (try dsimp only at hSw); go_simp; try with_reducible rfl)
      try simp only [Act.put, List.getElem_toArray, List.getElem_cons_succ, List.getElem_cons_zero, List.setIfInBounds_toArray, List.set_cons_zero, List.set_cons_succ]
      refine wpAnyL_ready (rs := [12]) (by kernel_rfl) (by simp) ?_
      refine AllReadyL.cons (o := _) rfl (fun K0 hK0 => ?_) AllReadyL.nil
      go_simp
      refine hK0.out _ _ (Y3.out.passes) (fun hHeld => ?_)
      clear hK0 K0
      try simp only [Act.put, List.getElem_toArray, List.getElem_cons_succ, List.getElem_cons_zero, List.setIfInBounds_toArray, List.set_cons_zero, List.set_cons_succ]
      refine wpAnyL_take 13 ?_ rfl (by rfl) ?_ hHeld ?_
      rotate_left
      · (intro w hSw; (try dsimp only at hSw); go_simp; try with_reducible rfl)
      try simp only [Act.put, List.getElem_toArray, List.getElem_cons_succ, List.getElem_cons_zero, List.setIfInBounds_toArray, List.set_cons_zero, List.set_cons_succ]
      refine wpAnyL_ready (rs := [14]) (by kernel_rfl) (by simp) ?_
      refine AllReadyL.last (o := _) rfl (fun K0 hK0 => ?_)
      have c1 := Y3.out.ow.cell (j := ix * 3 + 2) (by omega)
      have f1 := Y3.out.ow.frozen (ix * 3 + 2)
      clear hHeld
      go_simp
      refine hK0.out _ _ ?_
      clear hK0 K0
      try simp only [Act.put, List.getElem_toArray, List.getElem_cons_succ, List.getElem_cons_zero, List.setIfInBounds_toArray, List.set_cons_zero, List.set_cons_succ]
      refine wpAnyL_done (by kernel_rfl) ?_ _
      clear c1 f1
      obtain ⟨ys, hyl, hyj⟩ := Y3.out.pass hix (IntKind.i64.wrap (psv xs ix + v1))
      have JY := Lib.hid hyj
      have HYL : Hid (ys.length ≤ 6) := by show _ ≤ _; omega
      clear hyj hyl
      go_upto_region 13 with (fail)
      obtain ⟨wz, hwz⟩ : ∃ V, V = u3.setCell ⟨gB, ix * 3 + 2, none⟩ (.int .i64 (IntKind.i64.wrap (psv xs ix + v1))) := ⟨_, rfl⟩
      rw [← hwz]
      have JZ : Hid (SX w wz g A k c (a2 + 1 + 1 + 1) so b5 (some ⟨gB, 0, none⟩) c' ys) := by rw [hwz]; exact JY.out
      clear hwz
      have q0 := cell_of_row wz _ 0 _ _ _ JZ.out.bx; have q1 := cell_of_row wz _ 1 _ _ _ JZ.out.bx
      have f0 := frozen_of_row wz _ 0 _ _ JZ.out.bx; have f1 := frozen_of_row wz _ 1 _ _ JZ.out.bx
      simp at q0 q1
      have r0 := cell_of_row wz _ 0 _ _ _ JZ.out.rb; have r1 := cell_of_row wz _ 1 _ _ _ JZ.out.rb
      have t0 := frozen_of_row wz _ 0 _ _ JZ.out.rb; have t1 := frozen_of_row wz _ 1 _ _ JZ.out.rb
      simp at r0 r1
      have sw := JZ.out.so
      go_wp2
      refine bodyPost_ret (results_cell_row rfl _ _ w.heap.size _ _ (0, 0) _ rfl (heap_setCell_same _ _ 1 _ _ _ (heap_setCell_same _ _ 0 _ _ _ JZ.out.rb)) Try.underlying43 rfl (by kernel_rfl)) rfl ?_
      exact ⟨b5, some ⟨gB, 0, none⟩, c', ys, a2 + 1 + 1 + 1, rfl, HYL.out, by omega, trivial, JZ.out.fin⟩
    · go_simp
      refine hK0.out _ _ ((Y0.out.below (below_new v0 _)).passes) (fun hHeld => ?_)
      clear hK0 K0
      try simp only [Act.put, List.getElem_toArray, List.getElem_cons_succ, List.getElem_cons_zero, List.setIfInBounds_toArray, List.set_cons_zero, List.set_cons_succ]
      obtain ⟨u1, hu1⟩ : ∃ V, V = v0.alloc (.cells #[.int .i64 1, .int .i64 (-1), .int .i64 3000] 2) := ⟨_, rfl⟩
      obtain ⟨pa, hpa⟩ : ∃ s, s = v0.heap.size := ⟨_, rfl⟩
      have Y1 : Hid (SX w u1 g A k c (a2 + 1) so b5 (some ⟨gB, 0, none⟩) c' xs) := by rw [hu1]; exact Y0.out.below (below_new v0 _)
      have La1 : Hid (Sl u1 pa (pa + 1) (some ⟨pa, 0, none⟩) 3 (fun j => .int .i64 (gi [1, -1, 3000] j))) := by rw [hu1, hpa]; exact sl_new v0 _ _ [1, -1, 3000] 3 (fun j hj => by rcases (show j = 0 ∨ j = 1 ∨ j = 2 by omega) with rfl | rfl | rfl <;> rfl)
      have Za1 : Hid (g < pa ∧ pa < u1.heap.size) := by have := Y0.out.sr.lt; rw [hu1, hpa]; show _ ∧ _; simp; omega
      rw [← hu1] at hHeld ⊢
      rw [← hpa]
      clear hu1 hpa
      refine wpAnyL_ready (rs := [4]) (by kernel_rfl) (by simp) ?_
      refine AllReadyL.cons (o := _) rfl (fun K0 hK0 => ?_) AllReadyL.nil
      go_simp
      refine (l1Next_any lo (min hi w.heap.size) g A k c (a2 + 1) ((xs.length : Int)) b u1 (by omega) hk (by omega) HBY.out (CD.out u1 Y1.out.on) (by omega) Y1.out.sr).mono ?_
      rintro e9 u2 ⟨ix, rfl, hr9, _, hs9, ho9⟩
      have Y2 := Lib.hid (Y1.out.step hs9 ho9)
      have hix : ix < xs.length := by have := hr9 (by omega); omega
      have hix0 : (0 : Int) ≤ (ix : Int) := by omega
      have hixI : (ix : Int) < (xs.length : Int) := by omega
      have La2 := Lib.hid (La1.out.only ho9 Za1.out.2 (.inr (by have := Za1.out; omega)))
      have Za2 : Hid (g < pa ∧ pa < u2.heap.size) := by have := Za1.out; have := ho9.1.size; show _ ∧ _; omega
      clear hr9 hs9 ho9
      go_wp2_with fail
      refine hK0.out _ _ (Y2.out.passes) (fun hHeld => ?_)
      clear hK0 K0
      try simp only [Act.put, List.getElem_toArray, List.getElem_cons_succ, List.getElem_cons_zero, List.setIfInBounds_toArray, List.set_cons_zero, List.set_cons_succ]
      refine wpAnyL_take 5 ?_ rfl (by rfl) ?_ hHeld ?_
      rotate_left
      · (intro w hSw; (try dsimp only at hSw); go_simp; try with_reducible rfl)
      try simp only [Act.put, List.getElem_toArray, List.getElem_cons_succ, List.getElem_cons_zero, List.setIfInBounds_toArray, List.set_cons_zero, List.set_cons_succ]
      refine wpAnyL_take 6 ?_ rfl (by rfl) ?_ hHeld ?_
      rotate_left
      · (intro w hSw; (try dsimp only at hSw); go_simp; try with_reducible rfl)
      try simp only [Act.put, List.getElem_toArray, List.getElem_cons_succ, List.getElem_cons_zero, List.setIfInBounds_toArray, List.set_cons_zero, List.set_cons_succ]
      refine wpAnyL_take 7 ?_ rfl (by rfl) ?_ hHeld ?_
      rotate_left
      · (intro w hSw; (try dsimp only at hSw); go_simp; try with_reducible rfl)
      try simp only [Act.put, List.getElem_toArray, List.getElem_cons_succ, List.getElem_cons_zero, List.setIfInBounds_toArray, List.set_cons_zero, List.set_cons_succ]
      refine wpAnyL_ready (rs := [10]) (by kernel_rfl) (by simp) ?_
      refine AllReadyL.cons (o := _) rfl (fun K0 hK0 => ?_) AllReadyL.nil
      go_simp
      refine (l1Pick_any lo (min hi w.heap.size) g pa (pa + 1) A (some ⟨pa, 0, none⟩) k c (a2 + 1 + 1) 3 3 b [1, -1, 3000] u2 hk (by omega) HBY.out (CD.out u2 Y2.out.on) (by omega) Y2.out.sr rfl (by omega) (by omega) La2.out Za2.out.1 Za2.out.2).mono ?_
      rintro e9 u3 ⟨r9, hr9, rfl, hs9, ho9⟩
      generalize gi [1, -1, 3000] r9 = v1 at *
      have Y3 := Lib.hid (Y2.out.step hs9 ho9)
      clear hr9 hs9 ho9
      go_wp2_with fail
      refine hK0.out _ _ (Y3.out.passes) (fun hHeld => ?_)
      clear hK0 K0
      try simp only [Act.put, List.getElem_toArray, List.getElem_cons_succ, List.getElem_cons_zero, List.setIfInBounds_toArray, List.set_cons_zero, List.set_cons_succ]
      refine wpAnyL_take 11 ?_ rfl (by rfl) ?_ hHeld ?_
      rotate_left
      · (intro w hSw; (try dsimp only at hSw); go_simp; try with_reducible rfl)
      try simp only [Act.put, List.getElem_toArray, List.getElem_cons_succ, List.getElem_cons_zero, List.setIfInBounds_toArray, List.set_cons_zero, List.set_cons_succ]
      refine wpAnyL_ready (rs := [12]) (by kernel_rfl) (by simp) ?_
      refine AllReadyL.cons (o := _) rfl (fun K0 hK0 => ?_) AllReadyL.nil
      go_simp
      refine hK0.out _ _ (Y3.out.passes) (fun hHeld => ?_)
      clear hK0 K0
      try simp only [Act.put, List.getElem_toArray, List.getElem_cons_succ, List.getElem_cons_zero, List.setIfInBounds_toArray, List.set_cons_zero, List.set_cons_succ]
      refine wpAnyL_take 13 ?_ rfl (by rfl) ?_ hHeld ?_
      rotate_left
      · (intro w hSw; (try dsimp only at hSw); go_simp; try with_reducible rfl)
      try simp only [Act.put, List.getElem_toArray, List.getElem_cons_succ, List.getElem_cons_zero, List.setIfInBounds_toArray, List.set_cons_zero, List.set_cons_succ]
      refine wpAnyL_ready (rs := [14]) (by kernel_rfl) (by simp) ?_
      refine AllReadyL.last (o := _) rfl (fun K0 hK0 => ?_)
      have c1 := Y3.out.ow.cell (j := ix * 3 + 2) (by omega)
      have f1 := Y3.out.ow.frozen (ix * 3 + 2)
      clear hHeld
      go_simp
      refine hK0.out _ _ ?_
      clear hK0 K0
      try simp only [Act.put, List.getElem_toArray, List.getElem_cons_succ, List.getElem_cons_zero, List.setIfInBounds_toArray, List.set_cons_zero, List.set_cons_succ]
      refine wpAnyL_done (by kernel_rfl) ?_ _
      clear c1 f1
      obtain ⟨ys, hyl, hyj⟩ := Y3.out.pass hix (IntKind.i64.wrap (psv xs ix + v1))
      have JY := Lib.hid hyj
      have HYL : Hid (ys.length ≤ 6) := by show _ ≤ _; omega
      clear hyj hyl
      go_upto_region 13 with (fail)
      obtain ⟨wz, hwz⟩ : ∃ V, V = u3.setCell ⟨gB, ix * 3 + 2, none⟩ (.int .i64 (IntKind.i64.wrap (psv xs ix + v1))) := ⟨_, rfl⟩
      rw [← hwz]
      have JZ : Hid (SX w wz g A k c (a2 + 1 + 1 + 1) so b5 (some ⟨gB, 0, none⟩) c' ys) := by rw [hwz]; exact JY.out
      clear hwz
      have q0 := cell_of_row wz _ 0 _ _ _ JZ.out.bx; have q1 := cell_of_row wz _ 1 _ _ _ JZ.out.bx
      have f0 := frozen_of_row wz _ 0 _ _ JZ.out.bx; have f1 := frozen_of_row wz _ 1 _ _ JZ.out.bx
      simp at q0 q1
      have r0 := cell_of_row wz _ 0 _ _ _ JZ.out.rb; have r1 := cell_of_row wz _ 1 _ _ _ JZ.out.rb
      have t0 := frozen_of_row wz _ 0 _ _ JZ.out.rb; have t1 := frozen_of_row wz _ 1 _ _ JZ.out.rb
      simp at r0 r1
      have sw := JZ.out.so
      go_wp2
      refine bodyPost_ret (results_cell_row rfl _ _ w.heap.size _ _ (0, 0) _ rfl (heap_setCell_same _ _ 1 _ _ _ (heap_setCell_same _ _ 0 _ _ _ JZ.out.rb)) Try.underlying43 rfl (by kernel_rfl)) rfl ?_
      exact ⟨b5, some ⟨gB, 0, none⟩, c', ys, a2 + 1 + 1 + 1, rfl, HYL.out, by omega, trivial, JZ.out.fin⟩
  have n2 : ((r : Int) == 2) = false := by simp; omega
  by_cases e3 : r = 3
  · subst e3
    have n0 : (((3 : Nat) : Int) == 0) = false := by simp
    have n1 : (((3 : Nat) : Int) == 1) = false := by simp
    have n2 : (((3 : Nat) : Int) == 2) = false := by simp
    have n3 : (((3 : Nat) : Int) == 3) = true := by simp
    have CP := Lib.hid (pick_lit lo (min hi w.heap.size) g A k c (a2 + 1) 2 2 #[.int .i64 5, .int .i64 6] b [5, 6] w4 hk (by omega) HBY.out (CD.out w4 J4.out.on) (by omega) J4.out.sr rfl (by omega) (by omega) (fun q hq => by rcases (show q = 0 ∨ q = 1 by omega) with rfl | rfl <;> rfl))
    go_wp2_with fail
    refine CP.out.mono ?_
    rintro e w7 ⟨r9, hr9, rfl, hs, ho, hz9⟩
    have J7 := Lib.hid (J4.out.step hs ho)
    clear hs ho CP hz9 J4
    rcases (show r9 = 0 ∨ r9 = 1 by omega) with rfl | rfl
    · have e12 : gi [5, 6] 0 = 5 := rfl
      rw [e12]
      clear e12 hr9
      obtain ⟨Z, hZ⟩ : ∃ Z, Z = madeCells (Value.agg #[.int .i64 0, .int .i64 0, .int .i64 0]).cells (5 * 3) := ⟨_, rfl⟩
      have MK : ∀ W, (Instr.makeSlice 41 (.int .i64 5) (.int .i64 5)).run Try.prog W = .ok (.slice (some ⟨W.heap.size, 0, none⟩) 5 5) (W.alloc (.cells Z 52)) := fun W => by rw [hZ]; exact run_make_rows (P := Try.prog) 41 52 _ 3 24 Try.underlying41 infoReady .i64 .i64 5 (by omega) (by omega) W
      have OM : OR 52 3 (w7.alloc (.cells Z 52)) w.heap.size (some ⟨w7.heap.size, 0, none⟩) 5 5 (List.replicate (5 * 3) 0) := by rw [hZ]; exact or_made5 w7 5 (by omega) (base := w.heap.size) (by have := J7.out.lt; have := J7.out.so; omega)
      rw [← fl_zero 5] at OM
      obtain ⟨ys, hys⟩ : ∃ ys : List R3, ys = List.replicate 5 (0, 0, 0) := ⟨_, rfl⟩
      have yl : 5 = ys.length := by rw [hys]; rfl
      rw [← hys] at OM
      have J8 := Lib.hid (J7.out.below (below_new w7 (.cells Z 52)))
      have JP : Hid (SX w ((w7.alloc (.cells Z 52)).setCell ⟨so, 1, none⟩ (.slice (some ⟨w7.heap.size, 0, none⟩) 5 5)) g A k c (a2 + 1 + 1) so b5 (some ⟨w7.heap.size, 0, none⟩) 5 ys) := by
        have := J8.out.put1 (B2 := some ⟨w7.heap.size, 0, none⟩) (c2 := 5) (ys := ys) (Nat.le_refl _) (by rw [← yl]; exact OM)
        rw [← yl] at this
        exact this
      have q1 := cell_of_row (w7.alloc (.cells Z 52)) _ 1 _ _ _ J8.out.bx; have f1 := frozen_of_row (w7.alloc (.cells Z 52)) _ 1 _ _ J8.out.bx
      simp at q1
      have HYL : Hid (ys.length ≤ 6) := by show _ ≤ _; omega
      clear hZ OM hys yl J7 J8
      go_upto_region 13 with (fail)
      clear q1 f1 MK
      obtain ⟨wz, hwz⟩ : ∃ V, V = (w7.alloc (.cells Z 52)).setCell ⟨so, 1, none⟩ (.slice (some ⟨w7.heap.size, 0, none⟩) 5 5) := ⟨_, rfl⟩
      rw [← hwz]
      have JZ : Hid (SX w wz g A k c (a2 + 1 + 1) so b5 (some ⟨w7.heap.size, 0, none⟩) 5 ys) := by rw [hwz]; exact JP.out
      clear hwz
      have q0 := cell_of_row wz _ 0 _ _ _ JZ.out.bx; have q1 := cell_of_row wz _ 1 _ _ _ JZ.out.bx
      have f0 := frozen_of_row wz _ 0 _ _ JZ.out.bx; have f1 := frozen_of_row wz _ 1 _ _ JZ.out.bx
      simp at q0 q1
      have r0 := cell_of_row wz _ 0 _ _ _ JZ.out.rb; have r1 := cell_of_row wz _ 1 _ _ _ JZ.out.rb
      have t0 := frozen_of_row wz _ 0 _ _ JZ.out.rb; have t1 := frozen_of_row wz _ 1 _ _ JZ.out.rb
      simp at r0 r1
      have sw := JZ.out.so
      go_wp2
      refine bodyPost_ret (results_cell_row rfl _ _ w.heap.size _ _ (0, 0) _ rfl (heap_setCell_same _ _ 1 _ _ _ (heap_setCell_same _ _ 0 _ _ _ JZ.out.rb)) Try.underlying43 rfl (by kernel_rfl)) rfl ?_
      exact ⟨b5, some ⟨w7.heap.size, 0, none⟩, 5, ys, a2 + 1 + 1, rfl, HYL.out, by omega, trivial, JZ.out.fin⟩
    · have e13 : gi [5, 6] 1 = 6 := rfl
      rw [e13]
      clear e13 hr9
      obtain ⟨Z, hZ⟩ : ∃ Z, Z = madeCells (Value.agg #[.int .i64 0, .int .i64 0, .int .i64 0]).cells (6 * 3) := ⟨_, rfl⟩
      have MK : ∀ W, (Instr.makeSlice 41 (.int .i64 6) (.int .i64 6)).run Try.prog W = .ok (.slice (some ⟨W.heap.size, 0, none⟩) 6 6) (W.alloc (.cells Z 52)) := fun W => by rw [hZ]; exact run_make_rows (P := Try.prog) 41 52 _ 3 24 Try.underlying41 infoReady .i64 .i64 6 (by omega) (by omega) W
      have OM : OR 52 3 (w7.alloc (.cells Z 52)) w.heap.size (some ⟨w7.heap.size, 0, none⟩) 6 6 (List.replicate (6 * 3) 0) := by rw [hZ]; exact or_made5 w7 6 (by omega) (base := w.heap.size) (by have := J7.out.lt; have := J7.out.so; omega)
      rw [← fl_zero 6] at OM
      obtain ⟨ys, hys⟩ : ∃ ys : List R3, ys = List.replicate 6 (0, 0, 0) := ⟨_, rfl⟩
      have yl : 6 = ys.length := by rw [hys]; rfl
      rw [← hys] at OM
      have J8 := Lib.hid (J7.out.below (below_new w7 (.cells Z 52)))
      have JP : Hid (SX w ((w7.alloc (.cells Z 52)).setCell ⟨so, 1, none⟩ (.slice (some ⟨w7.heap.size, 0, none⟩) 6 6)) g A k c (a2 + 1 + 1) so b5 (some ⟨w7.heap.size, 0, none⟩) 6 ys) := by
        have := J8.out.put1 (B2 := some ⟨w7.heap.size, 0, none⟩) (c2 := 6) (ys := ys) (Nat.le_refl _) (by rw [← yl]; exact OM)
        rw [← yl] at this
        exact this
      have q1 := cell_of_row (w7.alloc (.cells Z 52)) _ 1 _ _ _ J8.out.bx; have f1 := frozen_of_row (w7.alloc (.cells Z 52)) _ 1 _ _ J8.out.bx
      simp at q1
      have HYL : Hid (ys.length ≤ 6) := by show _ ≤ _; omega
      clear hZ OM hys yl J7 J8
      go_upto_region 13 with (fail)
      clear q1 f1 MK
      obtain ⟨wz, hwz⟩ : ∃ V, V = (w7.alloc (.cells Z 52)).setCell ⟨so, 1, none⟩ (.slice (some ⟨w7.heap.size, 0, none⟩) 6 6) := ⟨_, rfl⟩
      rw [← hwz]
      have JZ : Hid (SX w wz g A k c (a2 + 1 + 1) so b5 (some ⟨w7.heap.size, 0, none⟩) 6 ys) := by rw [hwz]; exact JP.out
      clear hwz
      have q0 := cell_of_row wz _ 0 _ _ _ JZ.out.bx; have q1 := cell_of_row wz _ 1 _ _ _ JZ.out.bx
      have f0 := frozen_of_row wz _ 0 _ _ JZ.out.bx; have f1 := frozen_of_row wz _ 1 _ _ JZ.out.bx
      simp at q0 q1
      have r0 := cell_of_row wz _ 0 _ _ _ JZ.out.rb; have r1 := cell_of_row wz _ 1 _ _ _ JZ.out.rb
      have t0 := frozen_of_row wz _ 0 _ _ JZ.out.rb; have t1 := frozen_of_row wz _ 1 _ _ JZ.out.rb
      simp at r0 r1
      have sw := JZ.out.so
      go_wp2
      refine bodyPost_ret (results_cell_row rfl _ _ w.heap.size _ _ (0, 0) _ rfl (heap_setCell_same _ _ 1 _ _ _ (heap_setCell_same _ _ 0 _ _ _ JZ.out.rb)) Try.underlying43 rfl (by kernel_rfl)) rfl ?_
      exact ⟨b5, some ⟨w7.heap.size, 0, none⟩, 6, ys, a2 + 1 + 1, rfl, HYL.out, by omega, trivial, JZ.out.fin⟩
  have n3 : ((r : Int) == 3) = false := by simp; omega
  go_upto_region 13 with (fail)
  have q0 := cell_of_row w4 _ 0 _ _ _ J4.out.bx; have q1 := cell_of_row w4 _ 1 _ _ _ J4.out.bx
  have f0 := frozen_of_row w4 _ 0 _ _ J4.out.bx; have f1 := frozen_of_row w4 _ 1 _ _ J4.out.bx
  simp at q0 q1
  have r0 := cell_of_row w4 _ 0 _ _ _ J4.out.rb; have r1 := cell_of_row w4 _ 1 _ _ _ J4.out.rb
  have t0 := frozen_of_row w4 _ 0 _ _ J4.out.rb; have t1 := frozen_of_row w4 _ 1 _ _ J4.out.rb
  simp at r0 r1
  have sw := J4.out.so
  go_wp2
  refine bodyPost_ret (results_cell_row rfl _ _ w.heap.size _ _ (0, 0) _ rfl (heap_setCell_same _ _ 1 _ _ _ (heap_setCell_same _ _ 0 _ _ _ J4.out.rb)) Try.underlying43 rfl (by kernel_rfl)) rfl ?_
  exact ⟨b5, B, c', xs, a2 + 1, rfl, by omega, by omega, trivial, J4.out.fin⟩

end Go.Proofs.Ytckapndpefkcgaa
