/-
  The walk of FnExactIsBalanced: whatever came in, it returns true.
-/
import Derived.Test.YtkhphkfbjbhgaaaGreatBal9b
import Derived.Test.YtkhphkfbjbhgaaaGreatKit3e
namespace Go.Proofs.YtkhphkfbjbhgaaaGreat
open Go.RowKit
set_option maxRecDepth 100000

set_option maxHeartbeats 8000000 in
theorem walkIsBalanced (mm ev : Int) (A : Option Addr) (n c : Nat) (x : Nat → Int) (w : World) (hn : n ≤ 9223372036854775807) (h : Sl w 0 w.heap.size A (n * 7) (fun k => .int .i64 (x k))) :
    Calls Tryz.prog 6 #[.int .i64 mm, .slice A n c, .int .i64 ev] w fun e w' => e = .returned (.bool true) ∧ Below w.heap.size w w' := by
  have SZ := Lib.hid (szEventS_any A n c w hn)
  have H := Lib.hid h
  clear h
  by_cases hs : n ≤ 1048576
  case neg =>
    rw [if_neg hs] at SZ
    clear hs
    go_enter Tryz.func6, Tryz.ntmps6
    go_wp2_with fail
    refine SZ.out.mono ?_
    rintro e w1 ⟨rfl, rfl⟩
    go_wp2
    go_ret
    exact ⟨rfl, Below.refl _ _⟩
  rw [if_pos hs] at SZ
  obtain ⟨sv, hsv⟩ : ∃ sv : Int, sv = 1048576 - (n : Int) := ⟨_, rfl⟩
  rw [← hsv] at SZ
  have g1 : ¬ sv < 0 := by omega
  have HS := Lib.hid hs
  have TE : Hid (∀ W, Below w.heap.size w W → Calls Tryz.prog 13 #[.slice A n c] W fun e w' => e = .returned (.slice (some ⟨W.heap.size, 0, none⟩) n n) ∧ Row w' W.heap.size 0 78 (n * 7) (fun k => .int .i64 (x k)) ∧ Below W.heap.size W w') := fun W hW =>
    toEventS_any 0 w.heap.size A n c x W (by omega) (H.out.below hW (Nat.le_refl _)) hW.size
  obtain ⟨r, hr⟩ : ∃ r, r = bal9 mm x n ev := ⟨_, rfl⟩
  have SP : Hid (∀ (W : World) (lo hi : Nat) (A' : Option Addr) (c' : Nat), Sl W lo hi A' (n * 7) (fun k => .int .i64 (x k)) → Calls Tryz.prog 28 #[.int .i64 mm, .slice A' n c', .int .i64 ev] W fun e w' => e = .returned (.bool r) ∧ Below W.heap.size W w') := fun W lo hi A' c' hl => by rw [hr]; exact specIsBalanced_any lo hi A' n c' x mm ev W hs hl
  have IP : Hid (∀ (W : World) (lo hi : Nat) (A' : Option Addr) (c' : Nat), Sl W lo hi A' (n * 7) (fun k => .int .i64 (x k)) → Calls Tryz.prog 29 #[.int .i64 mm, .slice A' n c', .int .i64 ev] W fun e w' => e = .returned (.bool r) ∧ Below W.heap.size W w') := fun W lo hi A' c' hl => by rw [hr]; exact implIsBalanced_any lo hi A' n c' x mm ev W hn hl
  have yr : (r != r) = false := by simp
  clear hs hsv hn hr
  go_enter Tryz.func6, Tryz.ntmps6
  go_wp2_with fail
  refine SZ.out.mono ?_
  rintro e w1 ⟨rfl, rfl⟩
  clear SZ
  go_wp2_with fail
  refine (TE.out w (Below.refl _ _)).mono ?_
  rintro e w2 ⟨rfl, hr, hb⟩
  have S2 := Lib.hid (hr.sl (Nat.zero_le _) hr.lt)
  have R2 := Lib.hid hb
  clear hr hb
  go_wp2_with fail
  refine (SP.out w2 0 w2.heap.size _ n S2.out).mono ?_
  rintro e w3 ⟨rfl, hb⟩
  have R4 := Lib.hid (R2.out.trans (hb.mono R2.out.size))
  clear hb S2 SP
  go_wp2_with fail
  refine (TE.out w3 R4.out).mono ?_
  rintro e w5 ⟨rfl, hr, hb⟩
  have S5 := Lib.hid (hr.sl (Nat.zero_le _) hr.lt)
  have R5 := Lib.hid hb
  clear hr hb
  go_wp2_with fail
  refine (IP.out w5 0 w5.heap.size _ n S5.out).mono ?_
  rintro e w6 ⟨rfl, hb⟩
  have S8 := Lib.hid (S5.out.below hb (Nat.le_refl _))
  have Z8 : Hid (w5.heap.size ≤ w6.heap.size) := hb.size
  have W8 := Lib.hid (R4.out.trans ((R5.out.trans (hb.mono R5.out.size)).mono R4.out.size))
  clear hb S5 IP
  go_wp2_with fail
  refine (TE.out w6 W8.out).mono ?_
  rintro e w9 ⟨rfl, hr, hb⟩
  have S9 := Lib.hid (hr.sl (Nat.zero_le _) hr.lt)
  have X9 := Lib.hid (S8.out.below hb Z8.out)
  have W9 := Lib.hid (W8.out.trans (hb.mono W8.out.size))
  clear hr hb
  go_wp2_with fail
  refine (eqEventS_same _ _ _ _ _ _ n n n x w9 (by have := HS.out; omega) X9.out S9.out).mono ?_
  rintro e w10 ⟨rfl, hb⟩
  have W10 := Lib.hid (W9.out.trans (hb.mono W9.out.size))
  clear hb X9 S9
  go_wp2
  go_ret
  exact ⟨rfl, W10.out⟩

end Go.Proofs.YtkhphkfbjbhgaaaGreat
