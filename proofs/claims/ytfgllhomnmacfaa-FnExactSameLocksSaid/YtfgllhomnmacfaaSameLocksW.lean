/-
  The walk of FnExactSameLocks: whatever the two schedules that came in, it returns true.
-/
import Derived.Test.YtfgllhomnmacfaaKit6
import Derived.Test.YtfgllhomnmacfaaSame6
import Derived.Deep.RegionHeld3
namespace Go.Proofs.Ytfgllhomnmacfaa
open Go.RowKit
set_option maxRecDepth 100000

theorem szLockL_any (A : Option Addr) (n c : Nat) (b L : Int) (w : World) (hn : n ≤ 9223372036854775807) (h0 : 0 ≤ L ∧ L ≤ 1048576) :
    Calls Try.prog 5 #[.agg #[.int .i64 b, .slice A n c], .int .i64 L] w fun e w' => e = .returned (.int .i64 (if (n : Int) ≤ L then L - (n : Int) else -1)) ∧ Below w.heap.size w w' := by
  refine (szLock_any A n c b L w hn h0.1 h0.2).mono fun e w' ⟨h1, h2⟩ => ⟨?_, h2⟩
  rw [h1]
  by_cases h : (n : Int) ≤ L
  · rw [if_pos h, if_neg (by omega)]
  · rw [if_neg h, if_pos (by omega)]
set_option maxHeartbeats 16000000 in
theorem walkSameLocks (A : Option Addr) (n c : Nat) (b : Int) (xs : List Int) (A' : Option Addr) (n' c' : Nat) (b' : Int) (ys : List Int) (w : World) (hn : n ≤ 9223372036854775807) (hl : xs.length = n) (h : Sl w 0 w.heap.size A n (fun k => .int .i64 (gi xs k)))
    (hn' : n' ≤ 9223372036854775807) (hl' : ys.length = n') (h' : Sl w 0 w.heap.size A' n' (fun k => .int .i64 (gi ys k))) :
    Calls Try.prog 3 #[.agg #[.int .i64 b, .slice A n c], .agg #[.int .i64 b', .slice A' n' c']] w fun e w' => e = .returned (.bool true) ∧ Below w.heap.size w w' := by
  obtain ⟨w1, hw1⟩ : ∃ w1, w1 = (w.alloc (.cells #[.int .i64 b, .slice A n c] 24)).alloc (.cells #[.int .i64 b', .slice A' n' c'] 24) := ⟨_, rfl⟩
  have k1 : w1.heap[w.heap.size]? = some (.cells #[.int .i64 b, .slice A n c] 24 (0, 0)) := by rw [hw1]; exact heap_alloc2_old w _ _
  have k2 : w1.heap[w.heap.size + 1]? = some (.cells #[.int .i64 b', .slice A' n' c'] 24 (0, 0)) := by rw [hw1]; exact heap_alloc2_new w _ _
  have B1 : Hid (Below w.heap.size w w1) := by rw [hw1]; exact (below_new w _).alloc (by simp) _
  have Z1 : Hid (w1.heap.size = w.heap.size + 2) := by show _ = _; rw [hw1]; simp
  have QS : Hid (∀ W, Below w1.heap.size w1 W → (W.cell? ⟨w.heap.size, 0, none⟩ = some (.int .i64 b) ∧ W.cell? ⟨w.heap.size, 1, none⟩ = some (.slice A n c)) ∧ (W.cell? ⟨w.heap.size + 1, 0, none⟩ = some (.int .i64 b') ∧ W.cell? ⟨w.heap.size + 1, 1, none⟩ = some (.slice A' n' c'))) := fun W hW => by
    have j := (hW.block w.heap.size (by have := Z1.out; omega)).trans k1
    have i := (hW.block (w.heap.size + 1) (by have := Z1.out; omega)).trans k2
    exact ⟨⟨cell_of_row W _ 0 _ _ _ j, cell_of_row W _ 1 _ _ _ j⟩, cell_of_row W _ 0 _ _ _ i, cell_of_row W _ 1 _ _ _ i⟩
  have HW1 := Lib.hid hw1
  have HLA := Lib.hid hl; have HLB := Lib.hid hl'
  have HSA : Hid (Sl w1 0 w.heap.size A n (fun k => .int .i64 (gi xs k))) := h.below B1.out (Nat.le_refl _)
  have HSB : Hid (Sl w1 0 w.heap.size A' n' (fun k => .int .i64 (gi ys k))) := h'.below B1.out (Nat.le_refl _)
  have FIN : Hid (∀ W, Below w1.heap.size w1 W → Below w.heap.size w W) := fun W hW => B1.out.trans (hW.mono (by have := Z1.out; omega))
  have SZ1 := Lib.hid (szLockL_any A n c b 1048576 w1 hn (by omega))
  have SZ2 : Hid (∀ (W : World) (L : Int), 0 ≤ L ∧ L ≤ 1048576 → _) := fun W L hL => szLockL_any A' n' c' b' L W hn' hL
  have TKA : Hid (∀ W, Below w1.heap.size w1 W → n ≤ 1048576 → Calls Try.prog 7 #[.agg #[.int .i64 b, .slice A n c]] W fun e w' => ∃ u, e = .returned (.agg #[.int .i64 b, .slice (some ⟨u, 0, none⟩) n n]) ∧ (W.heap.size < u ∧ u < w'.heap.size) ∧ Mine w' u (u + 1) 2 (some ⟨u, 0, none⟩) n (fun k => .int .i64 (gi xs k)) ∧ Below W.heap.size W w') := fun W hW h20 =>
    (toLock_any 0 w.heap.size A n c b (gi xs) W (by omega) (HSA.out.below hW (by have := Z1.out; omega))).mono fun e w' ⟨u, h1, h2, h3, h4⟩ => ⟨u, h1, h2, .inr ⟨u, 0, rfl, Nat.le_refl _, Nat.lt_succ_self _, h3⟩, h4⟩
  have TKB : Hid (∀ W, Below w1.heap.size w1 W → n' ≤ 1048576 → Calls Try.prog 7 #[.agg #[.int .i64 b', .slice A' n' c']] W fun e w' => ∃ u, e = .returned (.agg #[.int .i64 b', .slice (some ⟨u, 0, none⟩) n' n']) ∧ (W.heap.size < u ∧ u < w'.heap.size) ∧ Mine w' u (u + 1) 2 (some ⟨u, 0, none⟩) n' (fun k => .int .i64 (gi ys k)) ∧ Below W.heap.size W w') := fun W hW h20 =>
    (toLock_any 0 w.heap.size A' n' c' b' (gi ys) W (by omega) (HSB.out.below hW (by have := Z1.out; omega))).mono fun e w' ⟨u, h1, h2, h3, h4⟩ => ⟨u, h1, h2, .inr ⟨u, 0, rfl, Nat.le_refl _, Nat.lt_succ_self _, h3⟩, h4⟩
  have NN := Lib.hid (show 0 ≤ n from Nat.zero_le _)
  clear h hl k1 k2 hw1 hn hn' hl' h'
  obtain ⟨⟨q0, q1⟩, p0, p1⟩ := QS.out w1 (Below.refl _ _)
  go_enter Try.func3, Try.ntmps3
  go_upto_region 1 with (fail)
  rw [← HW1.out]
  clear HW1
  go_wp2_with fail
  refine SZ1.out.mono ?_
  rintro e9 w2 ⟨rfl, hb⟩
  have R2 := Lib.hid hb
  clear SZ1 q0 q1 p0 p1 hb
  obtain ⟨⟨q0, q1⟩, p0, p1⟩ := QS.out w2 R2.out
  by_cases hs : (n : Int) ≤ 1048576
  rotate_left
  · rw [if_neg hs]
    go_wp2
    go_ret
    exact ⟨rfl, FIN.out _ R2.out⟩
  rw [if_pos hs]
  have H20 := Lib.hid (show n ≤ 1048576 by omega)
  obtain ⟨L, hL⟩ : ∃ L : Int, L = 1048576 - (n : Int) := ⟨_, rfl⟩
  have HL := Lib.hid (show 0 ≤ L ∧ L ≤ 1048576 by omega)
  rw [← hL]
  have z20 : ¬ (L < 0) := by omega
  clear hs hL
  go_wp2_with fail
  refine (SZ2.out w2 L HL.out).mono ?_
  rintro e9 w3 ⟨rfl, hb⟩
  have R3 := Lib.hid (R2.out.trans (hb.mono R2.out.size))
  clear SZ2 q0 q1 p0 p1 hb
  obtain ⟨⟨q0, q1⟩, p0, p1⟩ := QS.out w3 R3.out
  by_cases hs : (n' : Int) ≤ L
  rotate_left
  · rw [if_neg hs]
    go_wp2
    go_ret
    exact ⟨rfl, FIN.out _ R3.out⟩
  rw [if_pos hs]
  have H21 := Lib.hid (show n' ≤ 1048576 by have := HL.out; omega)
  have z21 : ¬ (L - (n' : Int) < 0) := by omega
  clear hs
  have SP : Hid (∀ W u v, Mine W u (u + 1) 2 (some ⟨u, 0, none⟩) n (fun k => .int .i64 (gi xs k)) → Mine W v (v + 1) 2 (some ⟨v, 0, none⟩) n' (fun k => .int .i64 (gi ys k)) → Calls Try.prog 6 #[.agg #[.int .i64 b, .slice (some ⟨u, 0, none⟩) n n], .agg #[.int .i64 b', .slice (some ⟨v, 0, none⟩) n' n']] W fun e w' => e = .returned (.bool (decide (b = b' ∧ xs = ys))) ∧ Below W.heap.size W w') := fun W u v hm hv => by
    exact specSameLocks_any u (u + 1) v (v + 1) _ _ n n n' n' b b' xs ys W (by have := H20.out; omega) HLA.out HLB.out hm.sl hv.sl
  have IP : Hid (∀ W u v, Mine W u (u + 1) 2 (some ⟨u, 0, none⟩) n (fun k => .int .i64 (gi xs k)) → Mine W v (v + 1) 2 (some ⟨v, 0, none⟩) n' (fun k => .int .i64 (gi ys k)) → Calls Try.prog 8 #[.agg #[.int .i64 b, .slice (some ⟨u, 0, none⟩) n n], .agg #[.int .i64 b', .slice (some ⟨v, 0, none⟩) n' n']] W fun e w' => e = .returned (.bool (decide (b = b' ∧ xs = ys))) ∧ Below W.heap.size W w') := fun W u v hm hv => by
    exact implSameLocks_any u (u + 1) v (v + 1) _ _ n n n' n' b b' xs ys W (by have := H20.out; omega) HLA.out HLB.out hm.sl hv.sl
  generalize decide (b = b' ∧ xs = ys) = q at *
  -- the model's
  have KT : Hid (∀ W, Below w3.heap.size w3 W → ((W.cell? ⟨w.heap.size, 0, none⟩ = some (.int .i64 b) ∧ W.cell? ⟨w.heap.size, 1, none⟩ = some (.slice A n c)) ∧ (W.cell? ⟨w.heap.size + 1, 0, none⟩ = some (.int .i64 b') ∧ W.cell? ⟨w.heap.size + 1, 1, none⟩ = some (.slice A' n' c'))) ∧ Below w3.heap.size w3 W) := fun W hW => ⟨QS.out W (R3.out.trans (hW.mono R3.out.size)), hW⟩
  have PT : Hid (∀ W, (((W.cell? ⟨w.heap.size, 0, none⟩ = some (.int .i64 b) ∧ W.cell? ⟨w.heap.size, 1, none⟩ = some (.slice A n c)) ∧ (W.cell? ⟨w.heap.size + 1, 0, none⟩ = some (.int .i64 b') ∧ W.cell? ⟨w.heap.size + 1, 1, none⟩ = some (.slice A' n' c'))) ∧ Below w3.heap.size w3 W) → Below w3.heap.size w3 W) := fun W hh => hh.2
  have AK : Hid (∀ W, Below w3.heap.size w3 W → Calls Try.prog 7 #[.agg #[.int .i64 b, .slice A n c]] W fun e w' => ∃ y, e = .returned (.agg #[.int .i64 b, .slice (some ⟨y, 0, none⟩) n n]) ∧ (Mine w' y (y + 1) 2 (some ⟨y, 0, none⟩) n (fun k => .int .i64 (gi xs k)) ∧ y < w'.heap.size) ∧ Below w3.heap.size w3 w') := fun W hB =>
    (TKA.out W (R3.out.trans (hB.mono R3.out.size)) H20.out).mono fun e w' ⟨y, he, hy, hm, hb⟩ => ⟨y, he, ⟨hm, hy.2⟩, hB.trans (hb.mono hB.size)⟩
  have BK : Hid (∀ W y, (Mine W y (y + 1) 2 (some ⟨y, 0, none⟩) n (fun k => .int .i64 (gi xs k)) ∧ y < W.heap.size) → Below w3.heap.size w3 W → Calls Try.prog 7 #[.agg #[.int .i64 b', .slice A' n' c']] W fun e w' => ∃ z, e = .returned (.agg #[.int .i64 b', .slice (some ⟨z, 0, none⟩) n' n']) ∧ (Mine w' y (y + 1) 2 (some ⟨y, 0, none⟩) n (fun k => .int .i64 (gi xs k)) ∧ Mine w' z (z + 1) 2 (some ⟨z, 0, none⟩) n' (fun k => .int .i64 (gi ys k))) ∧ Below w3.heap.size w3 w') := fun W y hy hB =>
    (TKB.out W (R3.out.trans (hB.mono R3.out.size)) H21.out).mono fun e w' ⟨z, he, hz, hm, hb⟩ => ⟨z, he, ⟨hy.1.below hb (by omega), hm⟩, hB.trans (hb.mono hB.size)⟩
  have CK : Hid (∀ W y z, (Mine W y (y + 1) 2 (some ⟨y, 0, none⟩) n (fun k => .int .i64 (gi xs k)) ∧ Mine W z (z + 1) 2 (some ⟨z, 0, none⟩) n' (fun k => .int .i64 (gi ys k))) → Below w3.heap.size w3 W → Calls Try.prog 6 #[.agg #[.int .i64 b, .slice (some ⟨y, 0, none⟩) n n], .agg #[.int .i64 b', .slice (some ⟨z, 0, none⟩) n' n']] W fun e w' => e = .returned (.bool q) ∧ Below w3.heap.size w3 w') := fun W y z hm hB =>
    (SP.out W y z hm.1 hm.2).mono fun e w' ⟨h1, h2⟩ => ⟨h1, hB.trans (h2.mono hB.size)⟩
  have R0 : Hid (Below w3.heap.size w3 w3) := Below.refl _ _
  go_upto_region 8 with (fail)
  go_region_held3 (fun W => ((W.cell? ⟨w.heap.size, 0, none⟩ = some (.int .i64 b) ∧ W.cell? ⟨w.heap.size, 1, none⟩ = some (.slice A n c)) ∧ (W.cell? ⟨w.heap.size + 1, 0, none⟩ = some (.int .i64 b') ∧ W.cell? ⟨w.heap.size + 1, 1, none⟩ = some (.slice A' n' c'))) ∧ Below w3.heap.size w3 W) (first | with_reducible exact KT.out _ (by assumption) | exact KT.out _ (Below.drew (Below.refl _ _))) (first | (go_at_call 7; with_reducible refine (AK.out _ (PT.out _ (by assumption))).mono ?_; rintro e9 wa ⟨y, rfl, hya, hba⟩) | (go_at_call 7; with_reducible refine (BK.out _ _ (by assumption) (PT.out _ (by assumption))).mono ?_; rintro e9 wz ⟨z, rfl, hza, hbz⟩) | (go_at_call 6; with_reducible refine (CK.out _ _ _ (by assumption) (PT.out _ (by assumption))).mono ?_; rintro e9 wc ⟨rfl, hbc⟩))
  have R4 := Lib.hid (R3.out.trans (hbc.mono R3.out.size))
  clear hya hba hza hbz hbc q0 q1 p0 p1 KT PT AK BK CK R0 SP
  obtain ⟨⟨q0, q1⟩, p0, p1⟩ := QS.out wc R4.out
  go_wp2_with fail
  refine (TKA.out _ R4.out H20.out).mono ?_
  rintro e9 w5 ⟨u, rfl, hu, hm, hb⟩
  have Rw5 := Lib.hid (R4.out.trans (hb.mono R4.out.size))
  have Mw5 := Lib.hid hm
  have Uw5 := Lib.hid hu
  have Gw5 := Lib.hid hb
  clear hm hb hu
  obtain ⟨w6, hw6⟩ : ∃ w6, w6 = w5.alloc (.cells #[.int .i64 b, .slice (some ⟨u, 0, none⟩) n n] 27) := ⟨_, rfl⟩
  have Xw6 : Hid (w6.heap[w5.heap.size]? = some (.cells #[.int .i64 b, .slice (some ⟨u, 0, none⟩) n n] 27 (0, 0))) := by show _ = _; rw [hw6]; exact heap_alloc_new w5 _
  have Nw6 : Hid (Below w5.heap.size w5 w6) := by rw [hw6]; exact below_new w5 _
  have R6 : Hid (Below w1.heap.size w1 w6) := Rw5.out.trans (Nw6.out.mono Rw5.out.size)
  have Zw6 : Hid (w6.heap.size = w5.heap.size + 1) := by show _ = _; rw [hw6]; simp
  have HWw6 := Lib.hid hw6
  clear hw6
  go_upto_region 10 with (fail)
  rw [← HWw6.out]
  clear HWw6 q0 q1 p0 p1
  obtain ⟨⟨q0, q1⟩, p0, p1⟩ := QS.out w6 R6.out
  go_wp2_with fail
  refine (TKB.out _ R6.out H21.out).mono ?_
  rintro e9 w7 ⟨v, rfl, hu, hm, hb⟩
  have Rw7 := Lib.hid (R6.out.trans (hb.mono R6.out.size))
  have Mw7 := Lib.hid hm
  have Uw7 := Lib.hid hu
  have Gw7 := Lib.hid hb
  clear hm hb hu
  obtain ⟨w8, hw8⟩ : ∃ w8, w8 = w7.alloc (.cells #[.int .i64 b', .slice (some ⟨v, 0, none⟩) n' n'] 27) := ⟨_, rfl⟩
  have Xw8 : Hid (w8.heap[w7.heap.size]? = some (.cells #[.int .i64 b', .slice (some ⟨v, 0, none⟩) n' n'] 27 (0, 0))) := by show _ = _; rw [hw8]; exact heap_alloc_new w7 _
  have Nw8 : Hid (Below w7.heap.size w7 w8) := by rw [hw8]; exact below_new w7 _
  have R8 : Hid (Below w1.heap.size w1 w8) := Rw7.out.trans (Nw8.out.mono Rw7.out.size)
  have Zw8 : Hid (w8.heap.size = w7.heap.size + 1) := by show _ = _; rw [hw8]; simp
  have HWw8 := Lib.hid hw8
  clear hw8
  go_upto_region 11 with (fail)
  rw [← HWw8.out]
  clear HWw8 q0 q1 p0 p1
  obtain ⟨⟨q0, q1⟩, p0, p1⟩ := QS.out w8 R8.out
  have XA8 : Hid (w8.heap[w5.heap.size]? = some (.cells #[.int .i64 b, .slice (some ⟨u, 0, none⟩) n n] 27 (0, 0))) := ((Nw8.out.block w5.heap.size (by have := Zw6.out; have := Gw7.out.size; omega)).trans (Gw7.out.block w5.heap.size (by have := Zw6.out; omega))).trans Xw6.out
  have MA8 : Hid (Mine w8 u (u + 1) 2 (some ⟨u, 0, none⟩) n (fun k => .int .i64 (gi xs k))) := ((Mw5.out.below Nw6.out Uw5.out.2).below Gw7.out (by have := Uw5.out; have := Zw6.out; omega)).below Nw8.out (by have := Uw5.out; have := Zw6.out; have := Gw7.out.size; omega)
  have MB8 : Hid (Mine w8 v (v + 1) 2 (some ⟨v, 0, none⟩) n' (fun k => .int .i64 (gi ys k))) := Mw7.out.below Nw8.out Uw7.out.2
  have x0 := cell_of_row w8 _ 0 _ _ _ XA8.out; have x1 := cell_of_row w8 _ 1 _ _ _ XA8.out; have y0 := cell_of_row w8 _ 0 _ _ _ Xw8.out; have y1 := cell_of_row w8 _ 1 _ _ _ Xw8.out
  simp at x0 x1 y0 y1
  go_wp2_with fail
  refine (IP.out _ _ _ MA8.out MB8.out).mono ?_
  rintro e9 w9 ⟨rfl, hb⟩
  have RX := Lib.hid (R8.out.trans (hb.mono R8.out.size))
  have SS := Lib.hid (show w5.heap.size < w6.heap.size ∧ w6.heap.size ≤ w7.heap.size ∧ w7.heap.size < w8.heap.size ∧ w8.heap.size ≤ w9.heap.size by have := Zw6.out; have := Gw7.out.size; have := Zw8.out; have := hb.size; omega)
  have XA := Lib.hid (show w5.heap.size < w9.heap.size ∧ w9.heap[w5.heap.size]? = some (.cells #[.int .i64 b, .slice (some ⟨u, 0, none⟩) n n] 27 (0, 0)) from ⟨by have := SS.out; omega, (hb.block w5.heap.size (by have := SS.out; omega)).trans XA8.out⟩)
  have XB := Lib.hid (show w7.heap.size < w9.heap.size ∧ w9.heap[w7.heap.size]? = some (.cells #[.int .i64 b', .slice (some ⟨v, 0, none⟩) n' n'] 27 (0, 0)) from ⟨by have := SS.out; omega, (hb.block w7.heap.size (by have := SS.out; omega)).trans Xw8.out⟩)
  have XMA := Lib.hid ((MA8.out.below hb (by have := Uw5.out; have := SS.out; omega)).sl.wide (Nat.zero_le _) (show u + 1 ≤ w9.heap.size by have := Uw5.out; have := SS.out; omega))
  have XMB := Lib.hid ((MB8.out.below hb (by have := Uw7.out; have := SS.out; omega)).sl.wide (Nat.zero_le _) (show v + 1 ≤ w9.heap.size by have := Uw7.out; have := SS.out; omega))
  clear hb x0 x1 y0 y1 q0 q1 p0 p1
  have qq : ∀ W, (binOp .neq 4 (.bool q) (.bool q)).run Try.prog W = .ok (.bool false) W := fun W => by cases q <;> rfl
  have KT : Hid (∀ W, Below w9.heap.size w9 W → (W.cell? ⟨w5.heap.size, 0, none⟩ = some (.int .i64 b) ∧ W.cell? ⟨w5.heap.size, 1, none⟩ = some (.slice (some ⟨u, 0, none⟩) n n)) ∧ ((W.cell? ⟨w.heap.size, 0, none⟩ = some (.int .i64 b) ∧ W.cell? ⟨w.heap.size, 1, none⟩ = some (.slice A n c)) ∧ (W.cell? ⟨w.heap.size + 1, 0, none⟩ = some (.int .i64 b') ∧ W.cell? ⟨w.heap.size + 1, 1, none⟩ = some (.slice A' n' c'))) ∧ Below w9.heap.size w9 W) := fun W hW => by
    have j := (hW.block w5.heap.size XA.out.1).trans XA.out.2
    exact ⟨⟨cell_of_row W _ 0 _ _ _ j, cell_of_row W _ 1 _ _ _ j⟩, QS.out W (RX.out.trans (hW.mono RX.out.size)), hW⟩
  have PT : Hid (∀ W, ((W.cell? ⟨w5.heap.size, 0, none⟩ = some (.int .i64 b) ∧ W.cell? ⟨w5.heap.size, 1, none⟩ = some (.slice (some ⟨u, 0, none⟩) n n)) ∧ ((W.cell? ⟨w.heap.size, 0, none⟩ = some (.int .i64 b) ∧ W.cell? ⟨w.heap.size, 1, none⟩ = some (.slice A n c)) ∧ (W.cell? ⟨w.heap.size + 1, 0, none⟩ = some (.int .i64 b') ∧ W.cell? ⟨w.heap.size + 1, 1, none⟩ = some (.slice A' n' c'))) ∧ Below w9.heap.size w9 W) → Below w9.heap.size w9 W) := fun W hh => hh.2.2
  have AK : Hid (∀ W, Below w9.heap.size w9 W → Calls Try.prog 7 #[.agg #[.int .i64 b, .slice A n c]] W fun e w' => ∃ y, e = .returned (.agg #[.int .i64 b, .slice (some ⟨y, 0, none⟩) n n]) ∧ Sl w' 0 w'.heap.size (some ⟨y, 0, none⟩) n (fun k => .int .i64 (gi xs k)) ∧ Below w9.heap.size w9 w') := fun W hB =>
    (TKA.out W (RX.out.trans (hB.mono RX.out.size)) H20.out).mono fun e w' ⟨y, he, hy, hm, hb⟩ => ⟨y, he, hm.sl.wide (by omega) (by omega), hB.trans (hb.mono hB.size)⟩
  have EK : Hid (∀ W y, Below w9.heap.size w9 W → Sl W 0 W.heap.size (some ⟨y, 0, none⟩) n (fun k => .int .i64 (gi xs k)) → Calls Try.prog 9 #[.agg #[.int .i64 b, .slice (some ⟨u, 0, none⟩) n n], .agg #[.int .i64 b, .slice (some ⟨y, 0, none⟩) n n]] W fun e w' => e = .returned (.bool true) ∧ Below w9.heap.size w9 w') := fun W y hB hk =>
    (eqLock_same 0 w9.heap.size 0 W.heap.size _ _ n n n b (gi xs) W (by have := H20.out; omega) (XMA.out.below hB (Nat.le_refl _)) hk).mono fun e w' ⟨h1, h2⟩ => ⟨h1, hB.trans (h2.mono hB.size)⟩
  have R0 : Hid (Below w9.heap.size w9 w9) := Below.refl _ _
  go_upto_region 14 with (fail)
  go_region_held3 (fun W => (W.cell? ⟨w5.heap.size, 0, none⟩ = some (.int .i64 b) ∧ W.cell? ⟨w5.heap.size, 1, none⟩ = some (.slice (some ⟨u, 0, none⟩) n n)) ∧ ((W.cell? ⟨w.heap.size, 0, none⟩ = some (.int .i64 b) ∧ W.cell? ⟨w.heap.size, 1, none⟩ = some (.slice A n c)) ∧ (W.cell? ⟨w.heap.size + 1, 0, none⟩ = some (.int .i64 b') ∧ W.cell? ⟨w.heap.size + 1, 1, none⟩ = some (.slice A' n' c'))) ∧ Below w9.heap.size w9 W) (first | with_reducible exact KT.out _ (by assumption) | exact KT.out _ (Below.drew (Below.refl _ _))) (first | (go_at_call 7; with_reducible refine (AK.out _ (PT.out _ (by assumption))).mono ?_; rintro e9 wa ⟨y, rfl, hkr, hba⟩) | (go_at_call 9; with_reducible refine (EK.out _ _ (PT.out _ (by assumption)) (by assumption)).mono ?_; rintro e9 wd ⟨rfl, hbb⟩))
  have RY := Lib.hid (RX.out.trans (hbb.mono RX.out.size))
  have XB2 := Lib.hid (show w7.heap.size < wd.heap.size ∧ wd.heap[w7.heap.size]? = some (.cells #[.int .i64 b', .slice (some ⟨v, 0, none⟩) n' n'] 27 (0, 0)) from ⟨by have := XB.out.1; have := hbb.size; omega, (hbb.block w7.heap.size XB.out.1).trans XB.out.2⟩)
  have XMB2 := Lib.hid ((XMB.out.below hbb (Nat.le_refl _)).wide (Nat.le_refl _) hbb.size)
  clear hbb hkr hba KT PT AK EK R0
  have KT : Hid (∀ W, Below wd.heap.size wd W → (W.cell? ⟨w7.heap.size, 0, none⟩ = some (.int .i64 b') ∧ W.cell? ⟨w7.heap.size, 1, none⟩ = some (.slice (some ⟨v, 0, none⟩) n' n')) ∧ ((W.cell? ⟨w.heap.size, 0, none⟩ = some (.int .i64 b) ∧ W.cell? ⟨w.heap.size, 1, none⟩ = some (.slice A n c)) ∧ (W.cell? ⟨w.heap.size + 1, 0, none⟩ = some (.int .i64 b') ∧ W.cell? ⟨w.heap.size + 1, 1, none⟩ = some (.slice A' n' c'))) ∧ Below wd.heap.size wd W) := fun W hW => by
    have j := (hW.block w7.heap.size XB2.out.1).trans XB2.out.2
    exact ⟨⟨cell_of_row W _ 0 _ _ _ j, cell_of_row W _ 1 _ _ _ j⟩, QS.out W (RY.out.trans (hW.mono RY.out.size)), hW⟩
  have PT : Hid (∀ W, ((W.cell? ⟨w7.heap.size, 0, none⟩ = some (.int .i64 b') ∧ W.cell? ⟨w7.heap.size, 1, none⟩ = some (.slice (some ⟨v, 0, none⟩) n' n')) ∧ ((W.cell? ⟨w.heap.size, 0, none⟩ = some (.int .i64 b) ∧ W.cell? ⟨w.heap.size, 1, none⟩ = some (.slice A n c)) ∧ (W.cell? ⟨w.heap.size + 1, 0, none⟩ = some (.int .i64 b') ∧ W.cell? ⟨w.heap.size + 1, 1, none⟩ = some (.slice A' n' c'))) ∧ Below wd.heap.size wd W) → Below wd.heap.size wd W) := fun W hh => hh.2.2
  have AK : Hid (∀ W, Below wd.heap.size wd W → Calls Try.prog 7 #[.agg #[.int .i64 b', .slice A' n' c']] W fun e w' => ∃ y, e = .returned (.agg #[.int .i64 b', .slice (some ⟨y, 0, none⟩) n' n']) ∧ Sl w' 0 w'.heap.size (some ⟨y, 0, none⟩) n' (fun k => .int .i64 (gi ys k)) ∧ Below wd.heap.size wd w') := fun W hB =>
    (TKB.out W (RY.out.trans (hB.mono RY.out.size)) H21.out).mono fun e w' ⟨y, he, hy, hm, hb⟩ => ⟨y, he, hm.sl.wide (by omega) (by omega), hB.trans (hb.mono hB.size)⟩
  have EK : Hid (∀ W y, Below wd.heap.size wd W → Sl W 0 W.heap.size (some ⟨y, 0, none⟩) n' (fun k => .int .i64 (gi ys k)) → Calls Try.prog 9 #[.agg #[.int .i64 b', .slice (some ⟨v, 0, none⟩) n' n'], .agg #[.int .i64 b', .slice (some ⟨y, 0, none⟩) n' n']] W fun e w' => e = .returned (.bool true) ∧ Below wd.heap.size wd w') := fun W y hB hk =>
    (eqLock_same 0 wd.heap.size 0 W.heap.size _ _ n' n' n' b' (gi ys) W (by have := H21.out; omega) (XMB2.out.below hB (Nat.le_refl _)) hk).mono fun e w' ⟨h1, h2⟩ => ⟨h1, hB.trans (h2.mono hB.size)⟩
  have R0 : Hid (Below wd.heap.size wd wd) := Below.refl _ _
  go_upto_region 16 with (fail)
  go_region_held3 (fun W => (W.cell? ⟨w7.heap.size, 0, none⟩ = some (.int .i64 b') ∧ W.cell? ⟨w7.heap.size, 1, none⟩ = some (.slice (some ⟨v, 0, none⟩) n' n')) ∧ ((W.cell? ⟨w.heap.size, 0, none⟩ = some (.int .i64 b) ∧ W.cell? ⟨w.heap.size, 1, none⟩ = some (.slice A n c)) ∧ (W.cell? ⟨w.heap.size + 1, 0, none⟩ = some (.int .i64 b') ∧ W.cell? ⟨w.heap.size + 1, 1, none⟩ = some (.slice A' n' c'))) ∧ Below wd.heap.size wd W) (first | with_reducible exact KT.out _ (by assumption) | exact KT.out _ (Below.drew (Below.refl _ _))) (first | (go_at_call 7; with_reducible refine (AK.out _ (PT.out _ (by assumption))).mono ?_; rintro e9 wa ⟨y, rfl, hkr, hba⟩) | (go_at_call 9; with_reducible refine (EK.out _ _ (PT.out _ (by assumption)) (by assumption)).mono ?_; rintro e9 we ⟨rfl, hbb⟩))
  have RF := Lib.hid (FIN.out _ (RY.out.trans (hbb.mono RY.out.size)))
  go_wp2
  go_ret
  exact ⟨rfl, RF.out⟩

end Go.Proofs.Ytfgllhomnmacfaa
