/-
  The program's WindowsOf, and the walk of FnExactWindowsOf: whatever came in, it returns true.
-/
import Derived.Test.YtkhphkfbjbhgaaaGreatTicks9
import Derived.Test.YtkhphkfbjbhgaaaGreatSpec9b
import Derived.Test.YtkhphkfbjbhgaaaGreatKit3e
namespace Go.Proofs.YtkhphkfbjbhgaaaGreat
open Go.RowKit
set_option maxRecDepth 100000

set_option maxHeartbeats 4000000 in
theorem implWindowsOf_any (lo hi : Nat) (A : Option Addr) (n c : Nat) (x : Nat → Int) (mm ev : Int) (w : World) (hn : n ≤ 9223372036854775807) (h : Sl w lo hi A (n * 7) (fun k => .int .i64 (x k))) :
    Calls Tryz.prog 14 #[.int .i64 mm, .slice A n c, .int .i64 ev] w fun e w' => e = .returned (.agg #[.int .i64 (wnd9 mm x n ev).1, .int .i64 (wnd9 mm x n ev).2]) ∧ Below w.heap.size w w' := by
  obtain ⟨w1, hw1⟩ : ∃ w1, w1 = w.alloc (.cells #[.int .i64 0, .int .i64 0] 25) := ⟨_, rfl⟩
  have K1 : Hid (w1.heap[w.heap.size]? = some (.cells #[.int .i64 0, .int .i64 0] 25 (0, 0))) := by show _ = _; rw [hw1]; exact heap_alloc_new w _
  have B1 : Hid (Below w.heap.size w w1) := by rw [hw1]; exact below_new w _
  have Z1 : Hid (w1.heap.size = w.heap.size + 1) := by show _ = _; rw [hw1]; simp
  have H := Lib.hid (h.lt.below B1.out (Nat.min_le_right _ _))
  have AS := Lib.hid (auditOf_any mm A n c ev w1 hn)
  have HW1 := Lib.hid hw1
  clear hw1 h
  go_enter Tryz.func14, Tryz.ntmps14
  go_upto_region 1 with (fail)
  rw [← HW1.out]
  clear HW1
  go_wp2_with fail
  refine AS.out.mono ?_
  rintro e w2 ⟨h, rfl, hh, hbad, hgood, hb⟩
  have B12 := Lib.hid hb
  have B2 := Lib.hid (B1.out.trans (hb.mono (by have := Z1.out; omega)))
  have K2 := Lib.hid ((hb.block w.heap.size (by have := Z1.out; omega)).trans K1.out)
  have H2 := Lib.hid (H.out.below hb (by have := Z1.out; omega))
  have HH := Lib.hid hh
  clear hb hh AS
  by_cases h0 : ask9 mm n ev = 0
  case neg =>
    have hk := hbad h0
    clear hgood hbad
    obtain ⟨q, hq⟩ : ∃ q, q = ask9 mm n ev := ⟨_, rfl⟩
    rw [← hq] at hk
    have E : Hid (wnd9 mm x n ev = (q, 0)) := by show _ = _; unfold wnd9; rw [if_pos h0, ← hq]
    have y : (q != 0) = true := by simp [hq, h0]
    have c0 := cell_of_row w2 _ 0 _ _ _ hk
    simp at c0
    have hblk := K2.out
    have p0 := cell_of_row _ _ 0 _ _ _ hblk
    have p1 := cell_of_row _ _ 1 _ _ _ hblk
    have f0 := frozen_of_row _ _ 0 _ _ hblk
    have f1 := frozen_of_row _ _ 1 _ _ hblk
    have HK := Lib.hid (fun a b => blk2_set hblk a b)
    simp at p0 p1
    clear hblk h0 hq hk
    go_wp2
    refine bodyPost_ret (results_cell_row rfl _ _ w.heap.size _ _ _ _ rfl (HK.out _ _) Tryz.underlying25 rfl (by kernel_rfl)) rfl ⟨by rw [E.out], ?_⟩
    exact (B2.out.setCell (Nat.le_refl _) _).setCell (Nat.le_refl _) _
  obtain ⟨p0, hJ⟩ := hgood h0
  have E : Hid (wnd9 mm x n ev = (0, (((tks (opens9 ev) (new3 mm) x n).length : Nat) : Int))) := by show _ = _; unfold wnd9; rw [if_neg (by simp [h0])]
  have ha := (ask9_zero h0).1
  have hk := hJ.box
  have c0 := cell_of_row w2 _ 0 _ _ _ hk
  simp at c0
  have TW := Lib.hid (ticksO_any hJ ha A c lo (min hi w.heap.size) x H2.out (by have := Z1.out; omega))
  have N4 := Lib.hid (rk3_good (x := x) ha).2.2
  clear hbad hgood hJ hk ha h0
  go_upto_region 4 with (fail)
  clear c0
  go_wp2_with fail
  refine TW.out.mono ?_
  rintro e w3 ⟨p', A4, c4, A5, m, c5, T, tn, tc, rfl, hJ, hb⟩
  have LT : Hid ((tks (opens9 ev) (new3 mm) x n).length = tn ∧ tn ≤ 400) := by
    have l1 := hJ.og.len
    have l2 := tks_le (opens9 ev) (new3 mm) x n
    have := N4.out
    simp only at l1
    show _ ∧ _
    omega
  have hblk := (hb.block w.heap.size (by have := Z1.out; omega)).trans K1.out
  have HB := Lib.hid (B1.out.trans (hb.mono (by have := Z1.out; omega)))
  have p0 := cell_of_row _ _ 0 _ _ _ hblk
  have p1 := cell_of_row _ _ 1 _ _ _ hblk
  have f0 := frozen_of_row _ _ 0 _ _ hblk
  have f1 := frozen_of_row _ _ 1 _ _ hblk
  have HK := Lib.hid (fun a b => blk2_set hblk a b)
  have hl := LT.out.2
  simp at p0 p1
  clear hblk hb hJ TW
  go_wp2
  refine bodyPost_ret (results_cell_row rfl _ _ w.heap.size _ _ _ _ rfl (HK.out _ _) Tryz.underlying25 rfl (by kernel_rfl)) rfl ⟨by rw [E.out, LT.out.1], ?_⟩
  exact (HB.out.setCell (Nat.le_refl _) _).setCell (Nat.le_refl _) _

set_option maxHeartbeats 8000000 in
theorem walkWindowsOf (mm ev : Int) (A : Option Addr) (n c : Nat) (x : Nat → Int) (w : World) (hn : n ≤ 9223372036854775807) (h : Sl w 0 w.heap.size A (n * 7) (fun k => .int .i64 (x k))) :
    Calls Tryz.prog 3 #[.int .i64 mm, .slice A n c, .int .i64 ev] w fun e w' => e = .returned (.bool true) ∧ Below w.heap.size w w' := by
  have SZ := Lib.hid (szEventS_any A n c w hn)
  have H := Lib.hid h
  clear h
  by_cases hs : n ≤ 1048576
  case neg =>
    rw [if_neg hs] at SZ
    clear hs
    go_enter Tryz.func3, Tryz.ntmps3
    go_wp2_with fail
    refine SZ.out.mono ?_
    rintro e w1 ⟨rfl, rfl⟩
    go_wp2
    go_ret
    exact ⟨rfl, Below.refl _ _⟩
  rw [if_pos hs] at SZ
  obtain ⟨sv, hsv⟩ : ∃ sv : Int, sv = 1048576 - (n : Int) := ⟨_, rfl⟩
  rw [← hsv] at SZ
  have g1 : ¬ sv < 0 := by omega
  have HS := Lib.hid hs
  have TE : Hid (∀ W, Below w.heap.size w W → Calls Tryz.prog 13 #[.slice A n c] W fun e w' => e = .returned (.slice (some ⟨W.heap.size, 0, none⟩) n n) ∧ Row w' W.heap.size 0 78 (n * 7) (fun k => .int .i64 (x k)) ∧ Below W.heap.size W w') := fun W hW =>
    toEventS_any 0 w.heap.size A n c x W (by omega) (H.out.below hW (Nat.le_refl _)) hW.size
  obtain ⟨r, hr⟩ : ∃ r, r = wnd9 mm x n ev := ⟨_, rfl⟩
  have SP : Hid (∀ (W : World) (lo hi : Nat) (A' : Option Addr) (c' : Nat), Sl W lo hi A' (n * 7) (fun k => .int .i64 (x k)) → Calls Tryz.prog 12 #[.int .i64 mm, .slice A' n c', .int .i64 ev] W fun e w' => e = .returned (.agg #[.int .i64 r.1, .int .i64 r.2]) ∧ Below W.heap.size W w') := fun W lo hi A' c' hl => by rw [hr]; exact specWindowsOf_any lo hi A' n c' x mm ev W hn hl
  have IP : Hid (∀ (W : World) (lo hi : Nat) (A' : Option Addr) (c' : Nat), Sl W lo hi A' (n * 7) (fun k => .int .i64 (x k)) → Calls Tryz.prog 14 #[.int .i64 mm, .slice A' n c', .int .i64 ev] W fun e w' => e = .returned (.agg #[.int .i64 r.1, .int .i64 r.2]) ∧ Below W.heap.size W w') := fun W lo hi A' c' hl => by rw [hr]; exact implWindowsOf_any lo hi A' n c' x mm ev W hn hl
  obtain ⟨q, v⟩ := r
  clear hs hsv hn hr
  go_enter Tryz.func3, Tryz.ntmps3
  go_wp2_with fail
  refine SZ.out.mono ?_
  rintro e w1 ⟨rfl, rfl⟩
  clear SZ
  go_wp2_with fail
  refine (TE.out w (Below.refl _ _)).mono ?_
  rintro e w2 ⟨rfl, hr, hb⟩
  have S2 := Lib.hid (hr.sl (Nat.zero_le _) hr.lt)
  have R2 := Lib.hid hb
  clear hr hb
  go_wp2_with fail
  refine (SP.out w2 0 w2.heap.size _ n S2.out).mono ?_
  rintro e w3 ⟨rfl, hb⟩
  dsimp only
  obtain ⟨w4, hw4⟩ : ∃ w4, w4 = w3.alloc (.cells #[.int .i64 q, .int .i64 v] 25) := ⟨_, rfl⟩
  obtain ⟨b0, hb0⟩ : ∃ b, b = w3.heap.size := ⟨_, rfl⟩
  have K4 : w4.heap[b0]? = some (.cells #[.int .i64 q, .int .i64 v] 25 (0, 0)) := by rw [hw4, hb0]; exact heap_alloc_new w3 _
  have BN4 : Below w3.heap.size w3 w4 := by rw [hw4]; exact below_new w3 _
  have R3 := R2.out.trans (hb.mono R2.out.size)
  have R4 := Lib.hid (R3.trans (BN4.mono R3.size))
  have F0 : Hid (∀ W, Below w4.heap.size w4 W → W.cell? ⟨b0, 0, none⟩ = some (.int .i64 q) ∧ W.cell? ⟨b0, 1, none⟩ = some (.int .i64 v)) := fun W hW => by
    have j := (hW.block b0 (Array.getElem?_eq_some_iff.1 K4).1).trans K4
    exact ⟨cell_of_row W _ 0 _ _ _ j, cell_of_row W _ 1 _ _ _ j⟩
  have HW := Lib.hid hw4; have HB0 := Lib.hid hb0
  clear hb S2 SP hw4 hb0 K4 BN4 R3
  go_upto_region 6 with (fail)
  rw [← HW.out, ← HB0.out]
  clear HW HB0
  go_wp2_with fail
  refine (TE.out w4 R4.out).mono ?_
  rintro e w5 ⟨rfl, hr, hb⟩
  have S5 := Lib.hid (hr.sl (Nat.zero_le _) hr.lt)
  have R5 := Lib.hid hb
  clear hr hb
  go_wp2_with fail
  refine (IP.out w5 0 w5.heap.size _ n S5.out).mono ?_
  rintro e w6 ⟨rfl, hb⟩
  dsimp only
  obtain ⟨w7, hw7⟩ : ∃ w7, w7 = w6.alloc (.cells #[.int .i64 q, .int .i64 v] 25) := ⟨_, rfl⟩
  obtain ⟨b1, hb1⟩ : ∃ b, b = w6.heap.size := ⟨_, rfl⟩
  have K7 : w7.heap[b1]? = some (.cells #[.int .i64 q, .int .i64 v] 25 (0, 0)) := by rw [hw7, hb1]; exact heap_alloc_new w6 _
  have BN7 : Below w6.heap.size w6 w7 := by rw [hw7]; exact below_new w6 _
  have R7 := Lib.hid ((R5.out.trans (hb.mono R5.out.size)).trans (BN7.mono (Nat.le_trans R5.out.size hb.size)))
  have S7 := Lib.hid ((S5.out.below hb (Nat.le_refl _)).below BN7 (by have := hb.size; omega))
  have Z7 : Hid (w5.heap.size ≤ w7.heap.size) := Nat.le_trans hb.size BN7.size
  have F1 : Hid (∀ W, Below w7.heap.size w7 W → W.cell? ⟨b1, 0, none⟩ = some (.int .i64 q) ∧ W.cell? ⟨b1, 1, none⟩ = some (.int .i64 v)) := fun W hW => by
    have j := (hW.block b1 (Array.getElem?_eq_some_iff.1 K7).1).trans K7
    exact ⟨cell_of_row W _ 0 _ _ _ j, cell_of_row W _ 1 _ _ _ j⟩
  have HW := Lib.hid hw7; have HB1 := Lib.hid hb1
  clear hb S5 IP hw7 hb1 K7 BN7 R5
  go_upto_region 8 with (fail)
  rw [← HW.out, ← HB1.out]
  clear HW HB1
  obtain ⟨s0, s1⟩ := F0.out w7 R7.out
  obtain ⟨z0, z1⟩ := F1.out w7 (Below.refl _ _)
  go_wp2_with fail
  refine (eqIntResult_same q v w7).mono ?_
  rintro e w8 ⟨rfl, hb⟩
  have R8 := Lib.hid (R7.out.trans (hb.mono R7.out.size))
  have S8 := Lib.hid (S7.out.below hb Z7.out)
  have Z8 : Hid (w5.heap.size ≤ w8.heap.size) := Nat.le_trans Z7.out hb.size
  have W8 := Lib.hid (R4.out.trans (R8.out.mono R4.out.size))
  clear hb s0 s1 z0 z1 F0 F1 S7 R7 Z7
  go_wp2_with fail
  refine (TE.out w8 W8.out).mono ?_
  rintro e w9 ⟨rfl, hr, hb⟩
  have S9 := Lib.hid (hr.sl (Nat.zero_le _) hr.lt)
  have X9 := Lib.hid (S8.out.below hb Z8.out)
  have W9 := Lib.hid (W8.out.trans (hb.mono W8.out.size))
  clear hr hb
  go_wp2_with fail
  refine (eqEventS_same _ _ _ _ _ _ n n n x w9 (by have := HS.out; omega) X9.out S9.out).mono ?_
  rintro e w10 ⟨rfl, hb⟩
  have W10 := Lib.hid (W9.out.trans (hb.mono W9.out.size))
  clear hb X9 S9
  go_wp2
  go_ret
  exact ⟨rfl, W10.out⟩

end Go.Proofs.YtkhphkfbjbhgaaaGreat
