/-
  The walk of FnExactLockFault: whatever the lock that came in, it returns true.
-/
import Derived.Test.YtfgllhomnmacfaaDoorKit6
import Derived.Test.YtfgllhomnmacfaaDoorSpec6b
import Derived.Test.YtfgllhomnmacfaaDoorImpl6b
import Derived.Deep.RegionHeld3
namespace Go.Proofs.YtfgllhomnmacfaaDoor
open Go.RowKit
set_option maxRecDepth 100000

set_option maxHeartbeats 8000000 in
theorem walkLockFault (E : E6) (A : Option Addr) (n c : Nat) (o : Int) (xs : List Int) (w : World) (hE : Errs E w) (hU : Unf E w) (hn : n ≤ 9223372036854775807) (hl : xs.length = n) (h : Sl w 0 w.heap.size A n (fun k => .int .i64 (gi xs k))) :
    Calls Tryd.prog 5 #[.agg #[.int .i64 o, .slice A n c]] w fun e w' => e = .returned (.bool true) ∧ Below w.heap.size w w' := by
  obtain ⟨w1, hw1⟩ : ∃ w1, w1 = w.alloc (.cells #[.int .i64 o, .slice A n c] 44) := ⟨_, rfl⟩
  have k1 : w1.heap[w.heap.size]? = some (.cells #[.int .i64 o, .slice A n c] 44 (0, 0)) := by rw [hw1]; exact heap_alloc_new w _
  have B1 : Hid (Below w.heap.size w w1) := by rw [hw1]; exact below_new w _
  have Z1 : Hid (w1.heap.size = w.heap.size + 1) := by show _ = _; rw [hw1]; simp
  have QS : Hid (∀ W, Below w1.heap.size w1 W → W.cell? ⟨w.heap.size, 0, none⟩ = some (.int .i64 o) ∧ W.cell? ⟨w.heap.size, 1, none⟩ = some (.slice A n c)) := fun W hW => by
    have j := (hW.block w.heap.size (by have := Z1.out; omega)).trans k1
    exact ⟨cell_of_row W _ 0 _ _ _ j, cell_of_row W _ 1 _ _ _ j⟩
  have HW1 := Lib.hid hw1
  have HL := Lib.hid hl
  have HS : Hid (Sl w1 0 w.heap.size A n (fun k => .int .i64 (gi xs k))) := h.below B1.out (Nat.le_refl _)
  have FIN : Hid (∀ W, Below w1.heap.size w1 W → Below w.heap.size w W) := fun W hW => B1.out.trans (hW.mono (by have := Z1.out; omega))
  have GE : Hid (∀ W, Below w1.heap.size w1 W → Errs E W ∧ Unf E W) := fun W hW => ⟨hE.below (FIN.out W hW), hU.below (FIN.out W hW)⟩
  have SZ := Lib.hid (szLock_any A n c o 1048576 w1 hn (by omega) (by omega))
  have TK : Hid (∀ W, Below w1.heap.size w1 W → n ≤ 1048576 → Calls Tryd.prog 36 #[.agg #[.int .i64 o, .slice A n c]] W fun e w' => ∃ u, e = .returned (.agg #[.int .i64 o, .slice (some ⟨u, 0, none⟩) n n]) ∧ (W.heap.size < u ∧ u < w'.heap.size) ∧ Mine w' u (u + 1) 2 (some ⟨u, 0, none⟩) n (fun k => .int .i64 (gi xs k)) ∧ Below W.heap.size W w') := fun W hW h20 =>
    (toLock_any 0 w.heap.size A n c o (gi xs) W (by omega) (HS.out.below hW (by have := Z1.out; omega))).mono fun e w' ⟨u, h1, h2, h3, h4⟩ => ⟨u, h1, h2, .inr ⟨u, 0, rfl, Nat.le_refl _, Nat.lt_succ_self _, h3⟩, h4⟩
  clear h hl k1 hw1 hn hE hU
  obtain ⟨q0, q1⟩ := QS.out w1 (Below.refl _ _)
  go_enter Tryd.func5, Tryd.ntmps5
  go_upto_region 1 with (fail)
  rw [← HW1.out]
  clear HW1
  go_wp2_with fail
  refine SZ.out.mono ?_
  rintro e9 w2 ⟨rfl, hb⟩
  have R2 := Lib.hid hb
  clear SZ q0 q1 hb
  obtain ⟨q0, q1⟩ := QS.out w2 R2.out
  by_cases hs : n ≤ 1048576
  rotate_left
  · have hs2 : (1048576 : Int) - n < 0 := by omega
    rw [if_pos hs2]
    clear hs hs2
    go_wp2
    go_ret
    exact ⟨rfl, FIN.out _ R2.out⟩
  have z20 : ¬ (1048576 - (n : Int) < 0) := by omega
  rw [if_neg z20]
  have H20 := Lib.hid hs
  have HA : Hid (n ≤ n) := Nat.le_refl _
  clear hs
  have SP : Hid (∀ W u, Mine W u (u + 1) 2 (some ⟨u, 0, none⟩) n (fun k => .int .i64 (gi xs k)) → Calls Tryd.prog 23 #[.agg #[.int .i64 o, .slice (some ⟨u, 0, none⟩) n n]] W fun e w' => e = .returned (.int .i64 (lf6 o xs)) ∧ Below W.heap.size W w') := fun W u hm =>
    specLockFault_any u (u + 1) _ n n o xs W (by have := H20.out; omega) (Nat.le_refl _) HL.out hm.sl
  have IP : Hid (∀ W u, Below w1.heap.size w1 W → Mine W u (u + 1) 2 (some ⟨u, 0, none⟩) n (fun k => .int .i64 (gi xs k)) → Calls Tryd.prog 22 #[.agg #[.int .i64 o, .slice (some ⟨u, 0, none⟩) n n]] W fun e w' => e = .returned (.int .i64 (lf6 o xs)) ∧ Below W.heap.size W w') := fun W u hW hm =>
    implLockFault_any E u (u + 1) _ n n o xs W (GE.out W hW).1 (GE.out W hW).2 (by have := H20.out; omega) (Nat.le_refl _) HL.out hm.sl
  generalize lf6 o xs = q at *
  go_wp2_with fail
  refine (TK.out _ R2.out H20.out).mono ?_
  rintro e9 w3 ⟨u, rfl, hu, hm, hb⟩
  have R3 := Lib.hid (R2.out.trans (hb.mono R2.out.size))
  have M3 := Lib.hid hm
  clear hu hm hb q0 q1
  obtain ⟨q0, q1⟩ := QS.out w3 R3.out
  go_wp2_with fail
  refine (SP.out _ _ M3.out).mono ?_
  rintro e9 w4 ⟨rfl, hb⟩
  have R4 := Lib.hid (R3.out.trans (hb.mono R3.out.size))
  clear hb q0 q1 M3
  obtain ⟨q0, q1⟩ := QS.out w4 R4.out
  go_wp2_with fail
  refine (TK.out _ R4.out H20.out).mono ?_
  rintro e9 w5 ⟨u2, rfl, hu, hm, hb⟩
  have R5 := Lib.hid (R4.out.trans (hb.mono R4.out.size))
  have M5 := Lib.hid hm
  have U5 := Lib.hid hu
  clear hm hb q0 q1 hu
  obtain ⟨w6, hw6⟩ : ∃ w6, w6 = w5.alloc (.cells #[.int .i64 o, .slice (some ⟨u2, 0, none⟩) n n] 26) := ⟨_, rfl⟩
  have X6 : Hid (w6.heap[w5.heap.size]? = some (.cells #[.int .i64 o, .slice (some ⟨u2, 0, none⟩) n n] 26 (0, 0))) := by show _ = _; rw [hw6]; exact heap_alloc_new w5 _
  have R6 : Hid (Below w1.heap.size w1 w6) := by rw [hw6]; exact R5.out.alloc R5.out.size _
  have Z6 : Hid (w6.heap.size = w5.heap.size + 1) := by show _ = _; rw [hw6]; simp
  have M6 : Hid (Mine w6 u2 (u2 + 1) 2 (some ⟨u2, 0, none⟩) n (fun k => .int .i64 (gi xs k))) := by rw [hw6]; exact M5.out.below (below_new w5 _) U5.out.2
  have HW6 := Lib.hid hw6
  clear hw6
  have x0 := cell_of_row w6 _ 0 _ _ _ X6.out; have x1 := cell_of_row w6 _ 1 _ _ _ X6.out
  simp at x0 x1
  go_upto_region 7 with (fail)
  rw [← HW6.out]
  clear HW6
  go_wp2_with fail
  refine (IP.out _ _ R6.out M6.out).mono ?_
  rintro e9 w7 ⟨rfl, hb⟩
  have RX := Lib.hid (R6.out.trans (hb.mono R6.out.size))
  have XB := Lib.hid ((hb.block w5.heap.size (by have := Z6.out; omega)).trans X6.out)
  have XLT := Lib.hid (show w5.heap.size < w7.heap.size by have := Z6.out; have := hb.size; omega)
  have XM := Lib.hid ((M6.out.below hb (by have := Z6.out; have := U5.out; omega)).sl.wide (Nat.zero_le _) (show u2 + 1 ≤ w7.heap.size by have := Z6.out; have := U5.out; have := hb.size; omega))
  clear hb x0 x1
  have qq : (q != q) = false := by simp
  have KT : Hid (∀ W, Below w7.heap.size w7 W → (W.cell? ⟨w5.heap.size, 0, none⟩ = some (.int .i64 o) ∧ W.cell? ⟨w5.heap.size, 1, none⟩ = some (.slice (some ⟨u2, 0, none⟩) n n)) ∧ (W.cell? ⟨w.heap.size, 0, none⟩ = some (.int .i64 o) ∧ W.cell? ⟨w.heap.size, 1, none⟩ = some (.slice A n c)) ∧ Below w7.heap.size w7 W) := fun W hW => by
    have j := (hW.block w5.heap.size (XLT.out)).trans XB.out
    exact ⟨⟨cell_of_row W _ 0 _ _ _ j, cell_of_row W _ 1 _ _ _ j⟩, QS.out W (RX.out.trans (hW.mono RX.out.size)), hW⟩
  have PT : Hid (∀ W, ((W.cell? ⟨w5.heap.size, 0, none⟩ = some (.int .i64 o) ∧ W.cell? ⟨w5.heap.size, 1, none⟩ = some (.slice (some ⟨u2, 0, none⟩) n n)) ∧ (W.cell? ⟨w.heap.size, 0, none⟩ = some (.int .i64 o) ∧ W.cell? ⟨w.heap.size, 1, none⟩ = some (.slice A n c)) ∧ Below w7.heap.size w7 W) → Below w7.heap.size w7 W) := fun W hh => hh.2.2
  have AK : Hid (∀ W, Below w7.heap.size w7 W → Calls Tryd.prog 36 #[.agg #[.int .i64 o, .slice A n c]] W fun e w' => ∃ y, e = .returned (.agg #[.int .i64 o, .slice (some ⟨y, 0, none⟩) n n]) ∧ Sl w' 0 w'.heap.size (some ⟨y, 0, none⟩) n (fun k => .int .i64 (gi xs k)) ∧ Below w7.heap.size w7 w') := fun W hB =>
    (TK.out W (RX.out.trans (hB.mono RX.out.size)) H20.out).mono fun e w' ⟨y, he, hy, hm, hb⟩ => ⟨y, he, hm.sl.wide (by omega) (by omega), hB.trans (hb.mono hB.size)⟩
  have EK : Hid (∀ W y, Below w7.heap.size w7 W → Sl W 0 W.heap.size (some ⟨y, 0, none⟩) n (fun k => .int .i64 (gi xs k)) → Calls Tryd.prog 37 #[.agg #[.int .i64 o, .slice (some ⟨u2, 0, none⟩) n n], .agg #[.int .i64 o, .slice (some ⟨y, 0, none⟩) n n]] W fun e w' => e = .returned (.bool true) ∧ Below w7.heap.size w7 w') := fun W y hB hk =>
    (eqLock_same 0 w7.heap.size 0 W.heap.size _ _ n n n o (gi xs) W (by have := H20.out; omega) (XM.out.below hB (Nat.le_refl _)) hk).mono fun e w' ⟨h1, h2⟩ => ⟨h1, hB.trans (h2.mono hB.size)⟩
  have R0 : Hid (Below w7.heap.size w7 w7) := Below.refl _ _
  go_upto_region 10 with (fail)
  go_region_held3 (fun W => (W.cell? ⟨w5.heap.size, 0, none⟩ = some (.int .i64 o) ∧ W.cell? ⟨w5.heap.size, 1, none⟩ = some (.slice (some ⟨u2, 0, none⟩) n n)) ∧ (W.cell? ⟨w.heap.size, 0, none⟩ = some (.int .i64 o) ∧ W.cell? ⟨w.heap.size, 1, none⟩ = some (.slice A n c)) ∧ Below w7.heap.size w7 W) (first | with_reducible exact KT.out _ (by assumption) | exact KT.out _ (Below.drew (Below.refl _ _))) (first | (go_at_call 36; with_reducible refine (AK.out _ (PT.out _ (by assumption))).mono ?_; rintro e9 wa' ⟨y, rfl, hkr, hba⟩) | (go_at_call 37; with_reducible refine (EK.out _ _ (PT.out _ (by assumption)) (by assumption)).mono ?_; rintro e9 wb ⟨rfl, hbb⟩))
  have RF := Lib.hid (FIN.out _ (RX.out.trans (hbb.mono RX.out.size)))
  go_wp2
  go_ret
  exact ⟨rfl, RF.out⟩

end Go.Proofs.YtfgllhomnmacfaaDoor
