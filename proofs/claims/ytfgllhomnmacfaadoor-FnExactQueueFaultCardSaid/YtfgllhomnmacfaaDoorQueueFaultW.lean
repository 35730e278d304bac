/-
  The walk of FnExactQueueFault: whatever the queue that came in, it returns true.
-/
import Derived.Test.YtfgllhomnmacfaaDoorKit6
import Derived.Test.YtfgllhomnmacfaaDoorSpec6b
import Derived.Test.YtfgllhomnmacfaaDoorImpl6b
import Derived.Deep.RegionHeld3
namespace Go.Proofs.YtfgllhomnmacfaaDoor
open Go.RowKit
set_option maxRecDepth 100000

set_option maxHeartbeats 8000000 in
theorem walkQueueFault (E : E6) (A : Option Addr) (n c : Nat) (xs : List Int) (w : World) (hE : Errs E w) (hl : xs.length = n) (h : Sl w 0 w.heap.size A n (fun k => .int .i64 (gi xs k))) :
    Calls Tryd.prog 6 #[.slice A n c] w fun e w' => e = .returned (.bool true) ∧ Below w.heap.size w w' := by
  have HL := Lib.hid hl
  have HS : Hid (Sl w 0 w.heap.size A n (fun k => .int .i64 (gi xs k))) := h
  have GE : Hid (∀ W, Below w.heap.size w W → Errs E W) := fun W hW => hE.below hW
  have TK : Hid (∀ W, Below w.heap.size w W → n ≤ 1048576 → Calls Tryd.prog 38 #[.slice A n c] W fun e w' => ∃ u, e = .returned (.slice (some ⟨u, 0, none⟩) n n) ∧ (W.heap.size ≤ u ∧ u < w'.heap.size) ∧ Mine w' u (u + 1) 2 (some ⟨u, 0, none⟩) n (fun k => .int .i64 (gi xs k)) ∧ Below W.heap.size W w') := fun W hW h20 =>
    (toInt64S_any 0 w.heap.size A n c (gi xs) W (by omega) (HS.out.below hW (Nat.le_refl _)) hW.size).mono fun e w' ⟨h1, h2, h3⟩ => ⟨W.heap.size, h1, ⟨Nat.le_refl _, h2.lt⟩, .inr ⟨W.heap.size, 0, rfl, Nat.le_refl _, Nat.lt_succ_self _, h2⟩, h3⟩
  clear h hl hE
  have R2 : Hid (Below w.heap.size w w) := Below.refl _ _
  by_cases hs : n ≤ 1048576
  rotate_left
  · have hs2 : (1048576 : Int) < n := by omega
    clear hs
    go_enter Tryd.func6, Tryd.ntmps6
    go_wp2
    go_ret
    exact ⟨rfl, R2.out⟩
  have z20 : ¬ ((1048576 : Int) < n) := by omega
  have H20 := Lib.hid hs
  clear hs
  have SP : Hid (∀ W u, Mine W u (u + 1) 2 (some ⟨u, 0, none⟩) n (fun k => .int .i64 (gi xs k)) → Calls Tryd.prog 34 #[.slice (some ⟨u, 0, none⟩) n n] W fun e w' => e = .returned (.int .i64 (qf6 xs)) ∧ Below W.heap.size W w') := fun W u hm =>
    specQueueFault_any u (u + 1) _ n n xs W (by have := H20.out; omega) (Nat.le_refl _) HL.out hm.sl
  have IP : Hid (∀ W u, Below w.heap.size w W → Mine W u (u + 1) 2 (some ⟨u, 0, none⟩) n (fun k => .int .i64 (gi xs k)) → Calls Tryd.prog 33 #[.slice (some ⟨u, 0, none⟩) n n] W fun e w' => e = .returned (.int .i64 (qf6 xs)) ∧ Below W.heap.size W w') := fun W u hW hm =>
    implQueueFault_any E u (u + 1) _ n n xs W (GE.out W hW) (by have := H20.out; omega) (Nat.le_refl _) HL.out hm.sl
  generalize qf6 xs = q at *
  have qq : (q != q) = false := by simp
  go_enter Tryd.func6, Tryd.ntmps6
  go_wp2_with fail
  refine (TK.out _ R2.out H20.out).mono ?_
  rintro e9 w3 ⟨u, rfl, hu, hm, hb⟩
  have R3 := Lib.hid hb
  have M3 := Lib.hid hm
  clear hu hm hb
  go_wp2_with fail
  refine (SP.out _ _ M3.out).mono ?_
  rintro e9 w4 ⟨rfl, hb⟩
  have R4 := Lib.hid (R3.out.trans (hb.mono R3.out.size))
  clear hb M3
  go_wp2_with fail
  refine (TK.out _ R4.out H20.out).mono ?_
  rintro e9 w5 ⟨u2, rfl, hu, hm, hb⟩
  have R5 := Lib.hid (R4.out.trans (hb.mono R4.out.size))
  have M5 := Lib.hid hm
  have U5 := Lib.hid hu
  clear hm hb hu
  go_wp2_with fail
  refine (IP.out _ _ R5.out M5.out).mono ?_
  rintro e9 w7 ⟨rfl, hb⟩
  have RX := Lib.hid (R5.out.trans (hb.mono R5.out.size))
  have XM := Lib.hid ((M5.out.below hb (by have := U5.out; omega)).sl.wide (Nat.zero_le _) (show u2 + 1 ≤ w7.heap.size by have := U5.out; have := hb.size; omega))
  clear hb
  have AK : Hid (Calls Tryd.prog 38 #[.slice A n c] w7 fun e w' => ∃ y, e = .returned (.slice (some ⟨y, 0, none⟩) n n) ∧ Sl w' 0 w'.heap.size (some ⟨y, 0, none⟩) n (fun k => .int .i64 (gi xs k)) ∧ Below w7.heap.size w7 w') :=
    (TK.out _ RX.out H20.out).mono fun e w' ⟨y, he, hy, hm, hb⟩ => ⟨y, he, hm.sl.wide (by omega) (by omega), hb⟩
  go_wp2_with fail
  refine AK.out.mono ?_
  rintro e9 wa' ⟨y, rfl, hkr, hba⟩
  have KR1 := Lib.hid hkr
  have BA1 := Lib.hid hba
  clear hkr hba
  go_wp2_with fail
  refine (eqInt64S_same 0 w7.heap.size 0 wa'.heap.size _ _ n n n (gi xs) _ (by have := H20.out; omega) (XM.out.below BA1.out (Nat.le_refl _)) KR1.out).mono ?_
  rintro e9 wb ⟨rfl, hb0⟩
  have hbb := BA1.out.trans (hb0.mono BA1.out.size)
  have RF := Lib.hid (RX.out.trans (hbb.mono RX.out.size))
  go_wp2
  go_ret
  exact ⟨rfl, RF.out⟩

end Go.Proofs.YtfgllhomnmacfaaDoor
