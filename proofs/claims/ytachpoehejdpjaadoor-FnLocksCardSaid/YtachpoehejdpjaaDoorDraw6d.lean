/-
  What chapter 6's draw of a lock that is passed answers. No conditions beyond that the code can be read.
-/
import Derived.Test.YtachpoehejdpjaaDoorDraw6c
namespace Go.Proofs.YtachpoehejdpjaaDoor
open Go.RowKit
set_option maxRecDepth 100000

set_option maxHeartbeats 1000000 in
theorem DrawPassLock_any (lo hi : Nat) (A : Option Addr) (k c : Nat) (b : Nat → Int) (w : World) (hk : k ≤ 1048576)
    (hb : ∀ j, 0 ≤ b j ∧ b j ≤ 255) (h : Sl w lo hi A k (fun j => .int .u8 (b j))) :
    Calls Tryd.prog 8 #[.slice A k c] w (DLI w) := by
  have H := Lib.hid h
  have HBY := Lib.hid hb
  obtain ⟨w1, hw1⟩ : ∃ w1, w1 = w.alloc (.cells #[.int .i64 0, .slice none 0 0] 26) := ⟨_, rfl⟩
  have K1 : Hid (w1.heap[w.heap.size]? = some (.cells #[.int .i64 0, .slice none 0 0] 26 (0, 0))) := by show _ = _; rw [hw1]; exact heap_alloc_new w _
  have B1 : Hid (Below w.heap.size w w1) := by rw [hw1]; exact below_new w _
  have Z1 : Hid (w.heap.size < w1.heap.size) := by show _ < _; rw [hw1]; simp
  have HW1 := Lib.hid hw1
  clear h hb hw1
  go_enter Tryd.func8, Tryd.ntmps8
  go_upto_region 1 with (fail)
  rw [← HW1.out]
  clear HW1
  go_wp2_with fail
  refine (l1Source_any A k c w1).mono ?_
  rintro e w2 ⟨rfl, hs, hb⟩
  have HS2 := Lib.hid hs
  have N2 := Lib.hid hb
  have ZG := Lib.hid (show w.heap.size ≤ w1.heap.size ∧ w1.heap.size < w2.heap.size by have := Z1.out; have := hs.lt; omega)
  have B2 := Lib.hid (B1.out.trans (hb.mono B1.out.size))
  have K2 := Lib.hid ((hb.block w.heap.size Z1.out).trans K1.out)
  have CD : Hid (∀ W, Below w.heap.size w W → Sl W lo (min hi w.heap.size) A k (fun j => .int .u8 (b j))) := fun W hW => H.out.lt.below hW (by omega)
  clear hs hb
  have BW := B2
  have HSW := HS2
  have D := Lib.hid (l6Draw_any lo (min hi w.heap.size) w1.heap.size A k c 0 b w2 hk (by omega) HBY.out (CD.out w2 BW.out) (by have := ZG.out; omega) HSW.out)
  go_wp2_with fail
  refine D.out.mono ?_
  rintro e w4 ⟨o, B2_, n2, c2, ys, a4, rfl, ey, hn2, hoy, ha4, hs4, ho4⟩
  have K4 := Lib.hid ((ho4.1.block w.heap.size (by have := ZG.out; have := Z1.out; omega)).trans K2.out)
  have B4 := Lib.hid (B2.out.trans (ho4.1.mono ZG.out.1))
  have S24 := Lib.hid ho4.1.size
  obtain ⟨w5, hw5⟩ : ∃ w5, w5 = w4.alloc (.cells #[.int .i64 o, .slice B2_ n2 c2] 26) := ⟨_, rfl⟩
  have N5 : Below w4.heap.size w4 w5 := by rw [hw5]; exact below_new w4 _
  have X5 : Hid (w5.heap[w4.heap.size]? = some (.cells #[.int .i64 o, .slice B2_ n2 c2] 26 (0, 0))) := by show _ = _; rw [hw5]; exact heap_alloc_new w4 _
  have K5 := Lib.hid ((N5.block w.heap.size (Array.getElem?_eq_some_iff.1 K4.out).1).trans K4.out)
  have O5 := Lib.hid (OR.below hoy N5 (Nat.le_refl _))
  have HS5 := Lib.hid (hs4.below N5)
  have B5 := Lib.hid (B4.out.trans (N5.mono B4.out.size))
  have XL := Lib.hid (show w4.heap.size < w5.heap.size from (Array.getElem?_eq_some_iff.1 X5.out).1)
  have XG := Lib.hid (show w1.heap.size + 1 ≤ w4.heap.size ∧ w.heap.size < w4.heap.size by have := ZG.out; have := S24.out; omega)
  have EY := Lib.hid ey
  have HN2 := Lib.hid hn2
  have SK : Hid (∀ W : World, W.heap[w4.heap.size]? = w5.heap[w4.heap.size]? → W.cell? ⟨w4.heap.size, 0, none⟩ = some (.int .i64 o) ∧ W.cell? ⟨w4.heap.size, 1, none⟩ = some (.slice B2_ n2 c2)) := fun W hW => by
    have j := hW.trans X5.out
    exact ⟨cell_of_row W _ 0 _ _ _ j, cell_of_row W _ 1 _ _ _ j⟩
  have HW5 := Lib.hid hw5
  clear hoy hs4 ho4 D ey hn2 N5 hw5
  go_upto_region 3 with (fail)
  rw [← HW5.out]
  clear HW5
  refine wp_region_held_drew (S := fun W => W.cell? ⟨w4.heap.size, 0, none⟩ = some (.int .i64 o) ∧ W.cell? ⟨w4.heap.size, 1, none⟩ = some (.slice B2_ n2 c2)) (by kernel_rfl) (SK.out _ rfl) (fun hHeld => ?_)
  obtain ⟨v0, hv0⟩ : ∃ v0, v0 = w5.drew := ⟨_, rfl⟩
  have BL0 : Hid (Below w5.heap.size w5 v0) := by rw [hv0]; exact Below.drew (Below.refl _ _)
  rw [← hv0] at hHeld ⊢
  clear hv0
  refine wpAnyH_take (i := 0) (oi := _) (v := ?_) rfl (by kernel_rfl) (by kernel_rfl) (by kernel_rfl) (fun _ _ _ h => h) (Or.inl ⟨by rfl, ?_⟩) hHeld ?_
  rotate_left
  · (intro w hSw; (try dsimp only at hSw); go_simp; try with_reducible rfl)
  try simp only [Act.put, List.getElem_toArray, List.getElem_cons_succ, List.getElem_cons_zero, List.setIfInBounds_toArray, List.set_cons_zero, List.set_cons_succ]
  refine wpAnyH_take (i := 1) (oi := _) (v := ?_) rfl (by kernel_rfl) (by kernel_rfl) (by kernel_rfl) (fun _ _ _ h => h) (Or.inl ⟨by rfl, ?_⟩) hHeld ?_
  rotate_left
  · (intro w hSw; (try dsimp only at hSw); go_simp; try with_reducible rfl)
  try simp only [Act.put, List.getElem_toArray, List.getElem_cons_succ, List.getElem_cons_zero, List.setIfInBounds_toArray, List.set_cons_zero, List.set_cons_succ]
  refine wpAnyH_take (i := 2) (oi := _) (v := ?_) rfl (by kernel_rfl) (by kernel_rfl) (by kernel_rfl) (fun _ _ _ h => h) (Or.inl ⟨by rfl, ?_⟩) hHeld ?_
  rotate_left
  · (intro w hSw; (try dsimp only at hSw); go_simp; try with_reducible rfl)
  try simp only [Act.put, List.getElem_toArray, List.getElem_cons_succ, List.getElem_cons_zero, List.setIfInBounds_toArray, List.set_cons_zero, List.set_cons_succ]
  refine wpAnyH_take (i := 3) (oi := _) (v := ?_) rfl (by kernel_rfl) (by kernel_rfl) (by kernel_rfl) (fun _ _ _ h => h) (Or.inl ⟨by rfl, ?_⟩) hHeld ?_
  rotate_left
  · (intro w hSw; (try dsimp only at hSw); go_simp; try with_reducible rfl)
  try simp only [Act.put, List.getElem_toArray, List.getElem_cons_succ, List.getElem_cons_zero, List.setIfInBounds_toArray, List.set_cons_zero, List.set_cons_succ]
  refine wpAnyH_take (i := 4) (oi := _) (v := ?_) rfl (by kernel_rfl) (by kernel_rfl) (by kernel_rfl) (fun _ _ _ h => h) (Or.inl ⟨by rfl, ?_⟩) hHeld ?_
  rotate_left
  · (intro w hSw; (try dsimp only at hSw); go_simp; try with_reducible rfl)
  try simp only [Act.put, List.getElem_toArray, List.getElem_cons_succ, List.getElem_cons_zero, List.setIfInBounds_toArray, List.set_cons_zero, List.set_cons_succ]
  refine wpAnyH_take (i := 5) (oi := _) (v := ?_) rfl (by kernel_rfl) (by kernel_rfl) (by kernel_rfl) (fun _ _ _ h => h) (Or.inl ⟨by rfl, ?_⟩) hHeld ?_
  rotate_left
  · (intro w hSw; (try dsimp only at hSw); go_simp; try with_reducible rfl)
  try simp only [Act.put, List.getElem_toArray, List.getElem_cons_succ, List.getElem_cons_zero, List.setIfInBounds_toArray, List.set_cons_zero, List.set_cons_succ]
  refine wpAnyH_take (i := 6) (oi := _) (v := ?_) rfl (by kernel_rfl) (by kernel_rfl) (by kernel_rfl) (fun _ _ _ h => h) (Or.inl ⟨by rfl, ?_⟩) hHeld ?_
  rotate_left
  · (intro w hSw; (try dsimp only at hSw); go_simp; try with_reducible rfl)
  try simp only [Act.put, List.getElem_toArray, List.getElem_cons_succ, List.getElem_cons_zero, List.setIfInBounds_toArray, List.set_cons_zero, List.set_cons_succ]
  refine wpAnyH_take (i := 7) (oi := _) (v := ?_) rfl (by kernel_rfl) (by kernel_rfl) (by kernel_rfl) (fun _ _ _ h => h) (Or.inl ⟨by rfl, ?_⟩) hHeld ?_
  rotate_left
  · (intro w hSw; (try dsimp only at hSw); go_simp; try with_reducible rfl)
  try simp only [Act.put, List.getElem_toArray, List.getElem_cons_succ, List.getElem_cons_zero, List.setIfInBounds_toArray, List.set_cons_zero, List.set_cons_succ]
  refine wpAnyH_ready (rs := [8]) (by kernel_rfl) (by simp) ?_
  refine AllReadyH.cons (o := _) rfl (fun K0 hK0 => ?_) AllReadyH.nil
  go_simp
  refine hK0.out _ _ (SK.out _ ((Below.heap_alloc _ _ _ (by have := XL.out; have := BL0.out.size; omega)).trans (BL0.out.block _ XL.out))) (fun hHeld => ?_)
  clear hK0 K0
  try simp only [Act.put, List.getElem_toArray, List.getElem_cons_succ, List.getElem_cons_zero, List.setIfInBounds_toArray, List.set_cons_zero, List.set_cons_succ]
  refine wpAnyH_ready (rs := [9]) (by kernel_rfl) (by simp) ?_
  refine AllReadyH.cons (o := _) rfl (fun K0 hK0 => ?_) AllReadyH.nil
  go_simp
  refine (pick_lit lo (min hi w.heap.size) w1.heap.size A k c a4 6 2 #[.int .i64 o, .int .i64 o, .int .i64 o, .int .i64 0, .int .i64 1, .int .i64 5] b [o, o, o, 0, 1, 5] v0 hk (by omega) HBY.out (CD.out v0 (B5.out.trans (BL0.out.mono B5.out.size))) (by have := ZG.out; omega) (HS5.out.below BL0.out) rfl (by omega) (by omega) (fun q hq => by rcases (show q = 0 ∨ q = 1 ∨ q = 2 ∨ q = 3 ∨ q = 4 ∨ q = 5 by omega) with rfl | rfl | rfl | rfl | rfl | rfl <;> rfl)).mono ?_
  rintro e9 v2 ⟨r5, hr5, rfl, hs5, ho5, hsz5⟩
  go_wp2_with fail
  generalize gi [o, o, o, 0, 1, 5] r5 = id5 at *
  have K6 := Lib.hid (((ho5.1.block w.heap.size (by have := ZG.out; have := Z1.out; omega)).trans (BL0.out.block _ (Array.getElem?_eq_some_iff.1 K5.out).1)).trans K5.out)
  have X6 := Lib.hid ((ho5.2 _ (by have := XG.out; omega) (by have := XL.out; have := BL0.out.size; omega)).trans (BL0.out.block _ XL.out))
  have O6 : Hid (OR 2 1 v2 w.heap.size B2_ n2 c2 ys) := OR.mono (OR.keptG (OR.below O5.out BL0.out (Nat.le_refl _)) ho5.grownBy (fun k hk => by injection hk with hk; have := ZG.out; omega)) (by have := B2.out.size; omega)
  have B6 := Lib.hid ((B5.out.trans (BL0.out.mono B5.out.size)).trans (ho5.1.mono ZG.out.1))
  clear hs5 ho5
  refine hK0.out _ _ (SK.out _ X6.out) (fun hHeld => ?_)
  clear hK0 K0
  try simp only [Act.put, List.getElem_toArray, List.getElem_cons_succ, List.getElem_cons_zero, List.setIfInBounds_toArray, List.set_cons_zero, List.set_cons_succ]
  refine wpAnyH_ready (rs := [10]) (by kernel_rfl) (by simp) ?_
  refine AllReadyH.cons (o := _) rfl (fun K0 hK0 => ?_) AllReadyH.nil
  clear hHeld
  rw [if_pos (by rfl)]
  refine wp_store_row 26 _ _ rfl (w.heap.size) _ rfl rfl 26 _ K6.out (by kernel_rfl) rfl (by simp [Value.oneCell']) ?_
  refine hK0.out _ _ (SK.out _ ((setRow_other _ _ _ _ (by have := XG.out; omega)).trans X6.out)) (fun hHeld => ?_)
  clear hK0 K0
  try simp only [Act.put, List.getElem_toArray, List.getElem_cons_succ, List.getElem_cons_zero, List.setIfInBounds_toArray, List.set_cons_zero, List.set_cons_succ]
  refine wpAnyH_take (i := 11) (oi := _) (v := ?_) rfl (by kernel_rfl) (by kernel_rfl) (by kernel_rfl) (fun _ _ _ h => h) (Or.inl ⟨by rfl, ?_⟩) hHeld ?_
  rotate_left
  · (intro w hSw; (try dsimp only at hSw); go_simp; try with_reducible rfl)
  try simp only [Act.put, List.getElem_toArray, List.getElem_cons_succ, List.getElem_cons_zero, List.setIfInBounds_toArray, List.set_cons_zero, List.set_cons_succ]
  refine wpAnyH_done (by kernel_rfl) ?_ _
  go_wp2_with fail
  refine bodyPost_ret (results_row_err rfl _ _ w.heap.size _ _ (0, 0) _ rfl (setRow_heap _ _ _ _ _ _ K6.out) Tryd.underlying26 rfl (by kernel_rfl) _ rfl) rfl ?_
  exact ⟨o, B2_, n2, c2, ys, id5, rfl, EY.out, HN2.out, OR.rowOther6 O6.out K6.out (by decide) _, below_setRow B6.out (Nat.le_refl _) _⟩

end Go.Proofs.YtachpoehejdpjaaDoor
