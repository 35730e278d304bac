/-
  The model's WindowsOf. No conditions beyond that the events can be read.
-/
import Derived.Test.YtkhphkfbjbhgaaaGreatSpec9
import Derived.Test.YtkhphkfbjbhgaaaGreatSpec3z
import Derived.Test.YtkhphkfbjbhgaaaGreatSpec3n
namespace Go.Proofs.YtkhphkfbjbhgaaaGreat
open Go.RowKit
set_option maxRecDepth 100000

set_option maxHeartbeats 4000000 in
theorem specWindowsOf_any (lo hi : Nat) (A : Option Addr) (n c : Nat) (x : Nat → Int) (mm ev : Int) (w : World) (hn : n ≤ 9223372036854775807) (h : Sl w lo hi A (n * 7) (fun k => .int .i64 (x k))) :
    Calls Tryz.prog 12 #[.int .i64 mm, .slice A n c, .int .i64 ev] w fun e w' => e = .returned (.agg #[.int .i64 (wnd9 mm x n ev).1, .int .i64 (wnd9 mm x n ev).2]) ∧ Below w.heap.size w w' := by
  obtain ⟨w1, hw1⟩ : ∃ w1, w1 = w.alloc (.cells #[.int .i64 0, .int .i64 0] 25) := ⟨_, rfl⟩
  have K1 : Hid (w1.heap[w.heap.size]? = some (.cells #[.int .i64 0, .int .i64 0] 25 (0, 0))) := by show _ = _; rw [hw1]; exact heap_alloc_new w _
  have B1 : Hid (Below w.heap.size w w1) := by rw [hw1]; exact below_new w _
  have Z1 : Hid (w1.heap.size = w.heap.size + 1) := by show _ = _; rw [hw1]; simp
  have H := Lib.hid (h.lt.below B1.out (Nat.min_le_right _ _))
  have AS := Lib.hid (l9Asked_any mm A n c ev w1 hn)
  obtain ⟨q, hq⟩ : ∃ q, q = ask9 mm n ev := ⟨_, rfl⟩
  have HA : Hid (wnd9 mm x n ev = if q ≠ 0 then (q, 0) else (0, (((tks (opens9 ev) (new3 mm) x n).length : Nat) : Int))) := by show _ = _; rw [hq]; rfl
  rw [← hq] at AS
  have HQ := Lib.hid hq
  have HW1 := Lib.hid hw1
  clear hq hw1 h
  go_enter Tryz.func12, Tryz.ntmps12
  go_upto_region 1 with (fail)
  rw [← HW1.out]
  clear HW1
  go_wp2_with fail
  refine AS.out.mono ?_
  rintro e w2 ⟨rfl, hb⟩
  have B2 := Lib.hid (B1.out.trans (hb.mono (by have := Z1.out; omega)))
  have K2 := Lib.hid ((hb.block w.heap.size (by have := Z1.out; omega)).trans K1.out)
  have Z2 : Hid (w.heap.size + 1 ≤ w2.heap.size) := by show _ ≤ _; have := Z1.out; have := hb.size; omega
  have H2 := Lib.hid (H.out.below hb (by have := Z1.out; omega))
  clear hb AS
  by_cases h0 : q = 0
  case neg =>
    have y : (q != 0) = true := by simp [h0]
    have E : Hid (wnd9 mm x n ev = (q, 0)) := by show _ = _; rw [HA.out, if_pos h0]
    have hblk := K2.out
    have p0 := cell_of_row _ _ 0 _ _ _ hblk
    have p1 := cell_of_row _ _ 1 _ _ _ hblk
    have f0 := frozen_of_row _ _ 0 _ _ hblk
    have f1 := frozen_of_row _ _ 1 _ _ hblk
    have HK := Lib.hid (fun a b => blk2_set hblk a b)
    simp at p0 p1
    clear hblk h0
    go_wp2
    refine bodyPost_ret (results_cell_row rfl _ _ w.heap.size _ _ _ _ rfl (HK.out _ _) Tryz.underlying25 rfl (by kernel_rfl)) rfl ⟨by rw [E.out], ?_⟩
    exact (B2.out.setCell (Nat.le_refl _) _).setCell (Nat.le_refl _) _
  have E : Hid (wnd9 mm x n ev = (0, (((tks (opens9 ev) (new3 mm) x n).length : Nat) : Int))) := by show _ = _; rw [HA.out, if_neg (by simp [h0])]
  have WC := Lib.hid (l9Windows_any lo (min hi w.heap.size) A n c x mm ev w2 (ask9_zero (HQ.out.symm.trans h0)).1 H2.out)
  have TL := tks_le (opens9 ev) (new3 mm) x n
  generalize (tks (opens9 ev) (new3 mm) x n).length = tl at *
  subst h0
  go_wp2_with fail
  refine WC.out.mono ?_
  rintro e w3 ⟨rfl, hb⟩
  have hblk := (hb.block w.heap.size (by have := Z2.out; omega)).trans K2.out
  have HB := Lib.hid (B2.out.trans (hb.mono (by have := Z2.out; omega)))
  have p0 := cell_of_row _ _ 0 _ _ _ hblk
  have p1 := cell_of_row _ _ 1 _ _ _ hblk
  have f0 := frozen_of_row _ _ 0 _ _ hblk
  have f1 := frozen_of_row _ _ 1 _ _ hblk
  have HK := Lib.hid (fun a b => blk2_set hblk a b)
  simp at p0 p1
  clear hblk hb
  go_wp2
  refine bodyPost_ret (results_cell_row rfl _ _ w.heap.size _ _ _ _ rfl (HK.out _ _) Tryz.underlying25 rfl (by kernel_rfl)) rfl ⟨by rw [E.out], ?_⟩
  exact (HB.out.setCell (Nat.le_refl _) _).setCell (Nat.le_refl _) _

end Go.Proofs.YtkhphkfbjbhgaaaGreat
