/-
  The walk of FnExactIsFair: whatever came in, it returns true.
-/
import Derived.Test.YtkhphkfbjbhgaaaFair9c
import Derived.Test.YtkhphkfbjbhgaaaKit5
namespace Go.Proofs.Ytkhphkfbjbhgaaa
open Go.RowKit
set_option maxRecDepth 100000

set_option maxHeartbeats 8000000 in
theorem walkIsFair (A : Option Addr) (n c : Nat) (b : Int) (xs : List R3) (t : Int) (w : World) (hn : n ≤ 9223372036854775807) (hl : n = xs.length) (h : RS w 0 w.heap.size A xs) :
    Calls Try.prog 4 #[.agg #[.int .i64 b, .slice A n c], .int .i64 t] w fun e w' => e = .returned (.bool true) ∧ Below w.heap.size w w' := by
  obtain ⟨w1, hw1⟩ : ∃ w1, w1 = w.alloc (.cells #[.int .i64 b, .slice A n c] 31) := ⟨_, rfl⟩
  have k1 : w1.heap[w.heap.size]? = some (.cells #[.int .i64 b, .slice A n c] 31 (0, 0)) := by rw [hw1]; exact heap_alloc_new w _
  have B1 : Hid (Below w.heap.size w w1) := by rw [hw1]; exact below_new w _
  have Z1 : Hid (w1.heap.size = w.heap.size + 1) := by show _ = _; rw [hw1]; simp
  have QS : Hid (∀ W, Below w1.heap.size w1 W → W.cell? ⟨w.heap.size, 0, none⟩ = some (.int .i64 b) ∧ W.cell? ⟨w.heap.size, 1, none⟩ = some (.slice A n c)) := fun W hW => by
    have j := (hW.block w.heap.size (by have := Z1.out; omega)).trans k1
    exact ⟨cell_of_row W _ 0 _ _ _ j, cell_of_row W _ 1 _ _ _ j⟩
  have HW1 := Lib.hid hw1
  have HL := Lib.hid hl
  have HS : Hid (Sl w1 0 w.heap.size A (n * 3) (fun k => .int .i64 (gi (fl xs) k))) := by rw [hl]; exact h.below B1.out (Nat.le_refl _)
  have FIN : Hid (∀ W, Below w1.heap.size w1 W → Below w.heap.size w W) := fun W hW => B1.out.trans (hW.mono (by have := Z1.out; omega))
  have SZ := Lib.hid (szSched_any A n c b w1 hn)
  have TK : Hid (∀ W, Below w1.heap.size w1 W → n ≤ 1048576 → Calls Try.prog 12 #[.agg #[.int .i64 b, .slice A n c]] W fun e w' => ∃ u, e = .returned (.agg #[.int .i64 b, .slice (some ⟨u, 0, none⟩) n n]) ∧ (W.heap.size ≤ u ∧ u < w'.heap.size) ∧ Row w' u 0 51 (n * 3) (fun k => .int .i64 (gi (fl xs) k)) ∧ Below W.heap.size W w') := fun W hW hs =>
    toSched_any 0 w.heap.size A n c b (gi (fl xs)) W (by omega) (HS.out.below hW (by have := Z1.out; omega))
  clear h hl k1 hw1 hn
  obtain ⟨q0, q1⟩ := QS.out w1 (Below.refl _ _)
  go_enter Try.func4, Try.ntmps4
  go_upto_region 1 with (fail)
  rw [← HW1.out]
  clear HW1
  go_wp2_with fail
  refine SZ.out.mono ?_
  rintro e9 w2 ⟨rfl, hb⟩
  have R2 := Lib.hid hb
  clear SZ q0 q1 hb
  obtain ⟨q0, q1⟩ := QS.out w2 R2.out
  by_cases hs : n ≤ 1048576
  rotate_left
  · rw [if_neg hs]
    go_wp2
    go_ret
    exact ⟨rfl, FIN.out _ R2.out⟩
  have z20 : ¬ (1048576 - (n : Int) < 0) := by omega
  rw [if_pos hs]
  have H20 := Lib.hid hs
  clear hs
  have rr : (fair9 b xs t != fair9 b xs t) = false := by simp
  have SP : Hid (∀ W u, Sl W u (u + 1) (some ⟨u, 0, none⟩) (n * 3) (fun k => .int .i64 (gi (fl xs) k)) → Calls Try.prog 11 #[.agg #[.int .i64 b, .slice (some ⟨u, 0, none⟩) n n], .int .i64 t] W fun e w' => e = .returned (.bool (fair9 b xs t)) ∧ Below W.heap.size W w') := fun W u hm => by
    have l := HL.out
    have h20 := H20.out
    subst l
    exact specIsFair_any u (u + 1) _ _ b xs t W h20 hm
  have IP : Hid (∀ W u, Sl W u (u + 1) (some ⟨u, 0, none⟩) (n * 3) (fun k => .int .i64 (gi (fl xs) k)) → Calls Try.prog 13 #[.agg #[.int .i64 b, .slice (some ⟨u, 0, none⟩) n n], .int .i64 t] W fun e w' => e = .returned (.bool (fair9 b xs t)) ∧ Below W.heap.size W w') := fun W u hm => by
    have l := HL.out
    have h20 := H20.out
    subst l
    exact implIsFair_any u (u + 1) _ _ b xs t W h20 hm
  generalize fair9 b xs t = ans at *
  go_wp2_with fail
  refine (TK.out _ R2.out H20.out).mono ?_
  rintro e9 w3 ⟨u0, rfl, hu, hm, hb⟩
  have R3 := Lib.hid (R2.out.trans (hb.mono R2.out.size))
  have M3 := Lib.hid (hm.sl (Nat.le_refl u0) (Nat.lt_succ_self u0))
  clear hu hm hb q0 q1
  obtain ⟨q0, q1⟩ := QS.out w3 R3.out
  go_wp2_with fail
  refine (SP.out _ _ M3.out).mono ?_
  rintro e9 w4 ⟨rfl, hb⟩
  have R4 := Lib.hid (R3.out.trans (hb.mono R3.out.size))
  clear hb M3 SP q0 q1
  obtain ⟨q0, q1⟩ := QS.out w4 R4.out
  go_wp2_with fail
  refine (TK.out _ R4.out H20.out).mono ?_
  rintro e9 w5 ⟨u1, rfl, hu, hm, hb⟩
  have R5 := Lib.hid (R4.out.trans (hb.mono R4.out.size))
  have M5 := Lib.hid (hm.sl (Nat.le_refl u1) (Nat.lt_succ_self u1))
  have U5 := Lib.hid hu
  clear hm hb q0 q1 hu
  obtain ⟨w6, hw6⟩ : ∃ w6, w6 = w5.alloc (.cells #[.int .i64 b, .slice (some ⟨u1, 0, none⟩) n n] 36) := ⟨_, rfl⟩
  obtain ⟨gx, hgx⟩ : ∃ gx, gx = w5.heap.size := ⟨_, rfl⟩
  have X6 : Hid (w6.heap[gx]? = some (.cells #[.int .i64 b, .slice (some ⟨u1, 0, none⟩) n n] 36 (0, 0))) := by show _ = _; rw [hw6, hgx]; exact heap_alloc_new w5 _
  have N6 : Below w5.heap.size w5 w6 := by rw [hw6]; exact below_new w5 _
  have R6 := Lib.hid (R5.out.trans (N6.mono R5.out.size))
  have M6 := Lib.hid (M5.out.below N6 (by have := U5.out; omega))
  have Z6 : Hid (u1 + 1 ≤ w6.heap.size) := by have := U5.out; have := N6.size; show _ ≤ _; omega
  have x0 := cell_of_row w6 _ 0 _ _ _ X6.out; have x1 := cell_of_row w6 _ 1 _ _ _ X6.out
  simp at x0 x1
  have HW6 := Lib.hid hw6; have HGX := Lib.hid hgx
  clear hw6 hgx N6 M5 U5
  go_upto_region 7 with (fail)
  rw [← HW6.out, ← HGX.out]
  clear HW6 HGX
  go_wp2_with fail
  refine (IP.out _ _ M6.out).mono ?_
  rintro e9 w7 ⟨rfl, hb⟩
  have R7 := Lib.hid (R6.out.trans (hb.mono R6.out.size))
  have M7 := Lib.hid (M6.out.below hb Z6.out)
  have X7 := Lib.hid ((hb.block gx (Array.getElem?_eq_some_iff.1 X6.out).1).trans X6.out)
  have Z7 : Hid (u1 + 1 ≤ w7.heap.size) := Nat.le_trans Z6.out hb.size
  have KH : Hid (∀ W, Below w7.heap.size w7 W → (W.cell? ⟨w.heap.size, 0, none⟩ = some (.int .i64 b) ∧ W.cell? ⟨w.heap.size, 1, none⟩ = some (.slice A n c)) ∧ (W.cell? ⟨gx, 0, none⟩ = some (.int .i64 b) ∧ W.cell? ⟨gx, 1, none⟩ = some (.slice (some ⟨u1, 0, none⟩) n n)) ∧ Below w7.heap.size w7 W) := fun W hW => by
    have j := (hW.block gx (Array.getElem?_eq_some_iff.1 X7.out).1).trans X7.out
    exact ⟨QS.out W (R7.out.trans (hW.mono R7.out.size)), ⟨cell_of_row W _ 0 _ _ _ j, cell_of_row W _ 1 _ _ _ j⟩, hW⟩
  have TK7 : Hid (∀ W, Below w7.heap.size w7 W → Calls Try.prog 12 #[.agg #[.int .i64 b, .slice A n c]] W fun e w' => ∃ u, e = .returned (.agg #[.int .i64 b, .slice (some ⟨u, 0, none⟩) n n]) ∧ Sl w' 0 w'.heap.size (some ⟨u, 0, none⟩) (n * 3) (fun k => .int .i64 (gi (fl xs) k)) ∧ Below w7.heap.size w7 w') := fun W hW =>
    (TK.out W (R7.out.trans (hW.mono R7.out.size)) H20.out).mono fun e w' ⟨u, h1, h2, h3, h4⟩ => ⟨u, h1, h3.sl (Nat.zero_le _) h3.lt, hW.trans (h4.mono hW.size)⟩
  have EQ7 : Hid (∀ W u, Sl W 0 W.heap.size (some ⟨u, 0, none⟩) (n * 3) (fun k => .int .i64 (gi (fl xs) k)) → Below w7.heap.size w7 W → Calls Try.prog 14 #[.agg #[.int .i64 b, .slice (some ⟨u1, 0, none⟩) n n], .agg #[.int .i64 b, .slice (some ⟨u, 0, none⟩) n n]] W fun e w' => e = .returned (.bool true) ∧ Below w7.heap.size w7 w') := fun W u hu hW =>
    (eqSched_same _ _ _ _ _ _ n n n b _ W (by have := H20.out; omega) (M7.out.below hW Z7.out) hu).mono fun e w' hh => ⟨hh.1, hW.trans (hh.2.mono hW.size)⟩
  clear hb x0 x1 X6 M6
  go_upto_region 10 with (fail)
  refine wp_region_held_drew (S := fun W => (W.cell? ⟨w.heap.size, 0, none⟩ = some (.int .i64 b) ∧ W.cell? ⟨w.heap.size, 1, none⟩ = some (.slice A n c)) ∧ (W.cell? ⟨gx, 0, none⟩ = some (.int .i64 b) ∧ W.cell? ⟨gx, 1, none⟩ = some (.slice (some ⟨u1, 0, none⟩) n n)) ∧ Below w7.heap.size w7 W) (by kernel_rfl) (KH.out _ (Below.drew (Below.refl _ _))) (fun hHeld => ?_)
  obtain ⟨v0, hv0⟩ : ∃ v0, v0 = w7.drew := ⟨_, rfl⟩
  have BL0 : Hid (Below w7.heap.size w7 v0) := by rw [hv0]; exact Below.drew (Below.refl _ _)
  rw [← hv0] at hHeld ⊢
  clear hv0
  refine wpAnyH_take (i := 0) (oi := _) (v := ?_) rfl (by kernel_rfl) (by kernel_rfl) (by kernel_rfl) (fun _ _ _ h => h) (Or.inl ⟨by rfl, ?_⟩) hHeld ?_
  rotate_left
  · (intro w hSw; (try dsimp only at hSw); go_simp; try with_reducible rfl)
  try simp only [Act.put, List.getElem_toArray, List.getElem_cons_succ, List.getElem_cons_zero, List.setIfInBounds_toArray, List.set_cons_zero, List.set_cons_succ]
  refine wpAnyH_take (i := 1) (oi := _) (v := ?_) rfl (by kernel_rfl) (by kernel_rfl) (by kernel_rfl) (fun _ _ _ h => h) (Or.inl ⟨by rfl, ?_⟩) hHeld ?_
  rotate_left
  · (intro w hSw; (try dsimp only at hSw); go_simp; try with_reducible rfl)
  try simp only [Act.put, List.getElem_toArray, List.getElem_cons_succ, List.getElem_cons_zero, List.setIfInBounds_toArray, List.set_cons_zero, List.set_cons_succ]
  refine wpAnyH_ready (rs := [2]) (by kernel_rfl) (by simp) ?_
  refine AllReadyH.cons (o := _) rfl (fun K0 hK0 => ?_) AllReadyH.nil
  go_simp
  refine (TK7.out _ (by go_split_ands; assumption)).mono ?_
  rintro e9 w9 ⟨u3, rfl, hm3, hb9⟩
  go_wp2_with fail
  have HM3 := Lib.hid hm3
  have HB8 := Lib.hid hb9
  clear hm3
  refine hK0.out _ _ (KH.out _ hb9) (fun hHeld => ?_)
  clear hK0 K0
  try simp only [Act.put, List.getElem_toArray, List.getElem_cons_succ, List.getElem_cons_zero, List.setIfInBounds_toArray, List.set_cons_zero, List.set_cons_succ]
  refine wpAnyH_ready (rs := [3]) (by kernel_rfl) (by simp) ?_
  refine AllReadyH.cons (o := _) rfl (fun K0 hK0 => ?_) AllReadyH.nil
  go_simp
  refine (EQ7.out _ u3 HM3.out HB8.out).mono ?_
  rintro e9 wz ⟨rfl, hbz⟩
  go_wp2_with fail
  have HB9 := Lib.hid hbz
  refine hK0.out _ _ (KH.out _ hbz) (fun hHeld => ?_)
  clear hK0 K0
  try simp only [Act.put, List.getElem_toArray, List.getElem_cons_succ, List.getElem_cons_zero, List.setIfInBounds_toArray, List.set_cons_zero, List.set_cons_succ]
  refine wpAnyH_take (i := 4) (oi := _) (v := ?_) rfl (by kernel_rfl) (by kernel_rfl) (by kernel_rfl) (fun _ _ _ h => h) (Or.inl ⟨by rfl, ?_⟩) hHeld ?_
  rotate_left
  · (intro w hSw; (try dsimp only at hSw); go_simp; try with_reducible rfl)
  try simp only [Act.put, List.getElem_toArray, List.getElem_cons_succ, List.getElem_cons_zero, List.setIfInBounds_toArray, List.set_cons_zero, List.set_cons_succ]
  refine wpAnyH_done (by kernel_rfl) ?_ _
  go_wp2
  go_ret
  exact ⟨rfl, FIN.out _ (R7.out.trans (HB9.out.mono R7.out.size))⟩

end Go.Proofs.Ytkhphkfbjbhgaaa
