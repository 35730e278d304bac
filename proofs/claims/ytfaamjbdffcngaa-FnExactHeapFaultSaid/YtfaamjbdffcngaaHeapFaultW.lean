/-
  The walk of FnExactHeapFault: whatever the list that came in, it returns true.
-/
import Derived.Test.YtfaamjbdffcngaaKit4b
import Derived.Test.YtfaamjbdffcngaaSpec4h
import Derived.Test.YtfaamjbdffcngaaImpl4i
import Derived.Test.YtfaamjbdffcngaaImpl4j
namespace Go.Proofs.Ytfaamjbdffcngaa
open Go.RowKit
set_option maxRecDepth 100000

set_option maxHeartbeats 8000000 in
theorem walkHeapFault (A : Option Addr) (n c : Nat) (xs : List Int) (w : World) (hn : n ≤ 9223372036854775807) (hl : xs.length = n * 2) (h : Sl w 0 w.heap.size A (n * 2) (fun k => .int .i64 (gi xs k))) :
    Calls Try.prog 5 #[.slice A n c] w fun e w' => e = .returned (.bool true) ∧ Below w.heap.size w w' := by
  obtain ⟨w1, hw1⟩ : ∃ w1, w1 = w := ⟨_, rfl⟩
  have B1 := Lib.hid (show Below w.heap.size w w1 by rw [hw1]; exact Below.refl _ _)
  have Z1 := Lib.hid (show w1.heap.size = w.heap.size by rw [hw1])
  have HW1 := Lib.hid hw1
  have HL := Lib.hid hl
  have HS := Lib.hid (show Sl w1 0 w.heap.size A (n * 2) (fun k => .int .i64 (gi xs k)) by rw [hw1]; exact h)
  clear h hl hw1
  have SZ := Lib.hid (szEntryS_any A n c w1 hn)
  have FIN : Hid (∀ W, Below w1.heap.size w1 W → Below w1.heap.size w1 W) := fun W hW => hW
  have TK : Hid (∀ W, Below w1.heap.size w1 W → n ≤ 1048576 → Calls Try.prog 30 #[.slice A n c] W fun e w' => e = .returned (.slice (some ⟨W.heap.size, 0, none⟩) n n) ∧ Mine w' W.heap.size (W.heap.size + 1) 26 (some ⟨W.heap.size, 0, none⟩) (n * 2) (fun k => .int .i64 (gi xs k)) ∧ Below W.heap.size W w' ∧ W.heap.size < w'.heap.size) := fun W hW h20 =>
    (toEntryS_any 0 w.heap.size A n c (gi xs) W (by omega) (HS.out.below hW (by have := Z1.out; omega)) (by have := hW.size; have := Z1.out; omega)).mono fun e w' ⟨h1, h2, h3⟩ => ⟨h1, .inr ⟨_, 0, rfl, Nat.le_refl _, Nat.lt_succ_self _, h2⟩, h3, h2.lt⟩
  go_enter Try.func5, Try.ntmps5
  rw [← HW1.out]
  clear HW1
  go_wp2_with fail
  refine SZ.out.mono ?_
  rintro e9 w2 ⟨rfl, rfl⟩
  clear SZ hn
  by_cases hs : n ≤ 1048576
  rotate_left
  · rw [if_neg hs]
    go_wp2
    go_ret
    exact ⟨rfl, FIN.out _ (Below.refl _ _)⟩
  have z20 : ¬ (1048576 - (n : Int) < 0) := by omega
  rw [if_pos hs]
  have H20 := Lib.hid hs
  have SP : Hid (∀ W u, Mine W u (u + 1) 26 (some ⟨u, 0, none⟩) (n * 2) (fun k => .int .i64 (gi xs k)) → Calls Try.prog 27 #[.slice (some ⟨u, 0, none⟩) n n] W fun e w' => e = .returned (.int .i64 (hf xs n)) ∧ Below W.heap.size W w') := fun W u hm =>
    specHeapFault_any u (u + 1) _ n n xs W (by have := H20.out; omega) hm.sl
  have IP : Hid (∀ W u, Mine W u (u + 1) 26 (some ⟨u, 0, none⟩) (n * 2) (fun k => .int .i64 (gi xs k)) → Calls Try.prog 26 #[.slice (some ⟨u, 0, none⟩) n n] W fun e w' => e = .returned (.int .i64 (hf xs n)) ∧ Below W.heap.size W w') := fun W u hm =>
    implHeapFault_any u (u + 1) _ n n xs W (by have := H20.out; omega) HL.out (fun h => by cases h) (Nat.le_refl _) hm.sl
  generalize hf xs n = q at *
  go_wp2_with fail
  refine (TK.out _ (Below.refl _ _) H20.out).mono ?_
  rintro e9 w3 ⟨rfl, hm, hb, hs3⟩
  have R3 := Lib.hid hb
  have M3 := Lib.hid hm
  clear hb hm hs3
  go_wp2_with fail
  refine (SP.out _ _ M3.out).mono ?_
  rintro e9 w4 ⟨rfl, hb⟩
  have R4 := Lib.hid (R3.out.trans (hb.mono R3.out.size))
  clear hb M3 R3
  go_wp2_with fail
  refine (TK.out _ R4.out H20.out).mono ?_
  rintro e9 w5 ⟨rfl, hm, hb, hs5⟩
  have R5 := Lib.hid (R4.out.trans (hb.mono R4.out.size))
  have M5 := Lib.hid hm
  have S5 := Lib.hid hs5
  clear hb hm hs5
  go_wp2_with fail
  refine (IP.out _ _ M5.out).mono ?_
  rintro e9 w6 ⟨rfl, hb⟩
  have R6 := Lib.hid (R5.out.trans (hb.mono R5.out.size))
  have M6 := Lib.hid (M5.out.below hb S5.out)
  have S6 := Lib.hid (show w4.heap.size < w6.heap.size by have := S5.out; have := hb.size; omega)
  clear hb M5 R5
  go_wp2_with fail
  refine (TK.out _ R6.out H20.out).mono ?_
  rintro e9 w7 ⟨rfl, hm, hb, _⟩
  have R7 := Lib.hid (R6.out.trans (hb.mono R6.out.size))
  have M7 := Lib.hid (M6.out.below hb S6.out)
  have N7 := Lib.hid hm
  clear hb hm M6
  go_wp2_with fail
  refine (eqEntryS_same _ _ _ _ _ _ n _ _ (gi xs) _ (by have := H20.out; omega) M7.out.sl N7.out.sl).mono ?_
  rintro e9 w8 ⟨rfl, hb⟩
  have FR := Lib.hid (FIN.out _ (R7.out.trans (hb.mono R7.out.size)))
  clear hb
  go_wp2
  go_ret
  exact ⟨rfl, FR.out⟩

end Go.Proofs.Ytfaamjbdffcngaa
