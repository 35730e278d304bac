/-
  The program's WindowsOf, and the walk of FnExactWindowsOf: whatever came in, it returns true.
  Ahead of it:
  The law's helpers on lists of events: size, copy, compare, mark. No conditions beyond that the lists can be read.
  Ahead of it:
  The model's WindowsOf. No conditions beyond that the events can be read.
-/
import Derived.Test.YtckapndpefkcgaaGreatTicks9
import Derived.Test.YtckapndpefkcgaaGreatSpec3a
import Derived.Test.YtckapndpefkcgaaGreatSpec9
import Derived.Test.YtckapndpefkcgaaGreatSpec3z
import Derived.Test.YtckapndpefkcgaaGreatSpec3n
import Derived.Test.YtckapndpefkcgaaGreatOwn4
set_option maxHeartbeats 1000000
namespace Go.Proofs.YtckapndpefkcgaaGreat
open Go.RowKit
set_option maxRecDepth 100000

set_option maxHeartbeats 4000000 in
theorem specWindowsOf_any (lo hi : Nat) (A : Option Addr) (n c : Nat) (x : Nat → Int) (mm ev : Int) (w : World) (hn : n ≤ 9223372036854775807) (h : Sl w lo hi A (n * 7) (fun k => .int .i64 (x k))) :
    Calls Tryz.prog 13 #[.int .i64 mm, .slice A n c, .int .i64 ev] w fun e w' => e = .returned (.agg #[.int .i64 (wnd9 mm x n ev).1, .int .i64 (wnd9 mm x n ev).2]) ∧ Below w.heap.size w w' := by
  obtain ⟨w1, hw1⟩ : ∃ w1, w1 = w.alloc (.cells #[.int .i64 0, .int .i64 0] 29) := ⟨_, rfl⟩
  have K1 : Hid (w1.heap[w.heap.size]? = some (.cells #[.int .i64 0, .int .i64 0] 29 (0, 0))) := by show _ = _; rw [hw1]; exact heap_alloc_new w _
  have B1 : Hid (Below w.heap.size w w1) := by rw [hw1]; exact below_new w _
  have Z1 : Hid (w1.heap.size = w.heap.size + 1) := by show _ = _; rw [hw1]; simp
  have H := Lib.hid (h.lt.below B1.out (Nat.min_le_right _ _))
  have AS := Lib.hid (l9Asked_any mm A n c ev w1 hn)
  obtain ⟨q, hq⟩ : ∃ q, q = ask9 mm n ev := ⟨_, rfl⟩
  have HA : Hid (wnd9 mm x n ev = if q ≠ 0 then (q, 0) else (0, (((tks (opens9 ev) (new3 mm) x n).length : Nat) : Int))) := by show _ = _; rw [hq]; rfl
  rw [← hq] at AS
  have HQ := Lib.hid hq
  have HW1 := Lib.hid hw1
  clear hq hw1 h
  go_enter Tryz.func13, Tryz.ntmps13
  go_upto_region 1 with (fail)
  rw [← HW1.out]
  clear HW1
  go_wp2_with fail
  refine AS.out.mono ?_
  rintro e w2 ⟨rfl, hb⟩
  have B2 := Lib.hid (B1.out.trans (hb.mono (by have := Z1.out; omega)))
  have K2 := Lib.hid ((hb.block w.heap.size (by have := Z1.out; omega)).trans K1.out)
  have Z2 : Hid (w.heap.size + 1 ≤ w2.heap.size) := by show _ ≤ _; have := Z1.out; have := hb.size; omega
  have H2 := Lib.hid (H.out.below hb (by have := Z1.out; omega))
  clear hb AS
  by_cases h0 : q = 0
  case neg =>
    have y : (q != 0) = true := by simp [h0]
    have E : Hid (wnd9 mm x n ev = (q, 0)) := by show _ = _; rw [HA.out, if_pos h0]
    have hblk := K2.out
    have p0 := cell_of_row _ _ 0 _ _ _ hblk
    have p1 := cell_of_row _ _ 1 _ _ _ hblk
    have f0 := frozen_of_row _ _ 0 _ _ hblk
    have f1 := frozen_of_row _ _ 1 _ _ hblk
    have HK := Lib.hid (fun a b => blk2_set hblk a b)
    simp at p0 p1
    clear hblk h0
    go_wp2
    refine bodyPost_ret (results_cell_row rfl _ _ w.heap.size _ _ _ _ rfl (HK.out _ _) Tryz.underlying29 rfl (by kernel_rfl)) rfl ⟨by rw [E.out], ?_⟩
    exact (B2.out.setCell (Nat.le_refl _) _).setCell (Nat.le_refl _) _
  have E : Hid (wnd9 mm x n ev = (0, (((tks (opens9 ev) (new3 mm) x n).length : Nat) : Int))) := by show _ = _; rw [HA.out, if_neg (by simp [h0])]
  have WC := Lib.hid (l9Windows_any lo (min hi w.heap.size) A n c x mm ev w2 (ask9_zero (HQ.out.symm.trans h0)).1 H2.out)
  have TL := tks_le (opens9 ev) (new3 mm) x n
  generalize (tks (opens9 ev) (new3 mm) x n).length = tl at *
  subst h0
  go_wp2_with fail
  refine WC.out.mono ?_
  rintro e w3 ⟨rfl, hb⟩
  have hblk := (hb.block w.heap.size (by have := Z2.out; omega)).trans K2.out
  have HB := Lib.hid (B2.out.trans (hb.mono (by have := Z2.out; omega)))
  have p0 := cell_of_row _ _ 0 _ _ _ hblk
  have p1 := cell_of_row _ _ 1 _ _ _ hblk
  have f0 := frozen_of_row _ _ 0 _ _ hblk
  have f1 := frozen_of_row _ _ 1 _ _ hblk
  have HK := Lib.hid (fun a b => blk2_set hblk a b)
  simp at p0 p1
  clear hblk hb
  go_wp2
  refine bodyPost_ret (results_cell_row rfl _ _ w.heap.size _ _ _ _ rfl (HK.out _ _) Tryz.underlying29 rfl (by kernel_rfl)) rfl ⟨by rw [E.out], ?_⟩
  exact (HB.out.setCell (Nat.le_refl _) _).setCell (Nat.le_refl _) _



theorem Row.set7 {w : World} {g : Nat} {t : TypeId} {n i : Nat} {f : Nat → Value} (h : Row w g 0 t n f) (hi : i + 6 < n) (u0 u1 u2 u3 u4 u5 u6 : Value) :
    Row (((((((w.setCell ⟨g, i, none⟩ u0).setCell ⟨g, i + 1, none⟩ u1).setCell ⟨g, i + 2, none⟩ u2).setCell ⟨g, i + 3, none⟩ u3).setCell ⟨g, i + 4, none⟩ u4).setCell ⟨g, i + 5, none⟩ u5).setCell ⟨g, i + 6, none⟩ u6) g 0 t n (fun k => (if k = i + 6 then u6 else (if k = i + 5 then u5 else (if k = i + 4 then u4 else (if k = i + 3 then u3 else (if k = i + 2 then u2 else (if k = i + 1 then u1 else (if k = i then u0 else f k)))))))) := by
  have h0 := Row.set h (show i < n by omega) u0
  rw [Nat.zero_add] at h0
  have h1 := Row.set h0 (show i + 1 < n by omega) u1
  rw [Nat.zero_add] at h1
  have h2 := Row.set h1 (show i + 2 < n by omega) u2
  rw [Nat.zero_add] at h2
  have h3 := Row.set h2 (show i + 3 < n by omega) u3
  rw [Nat.zero_add] at h3
  have h4 := Row.set h3 (show i + 4 < n by omega) u4
  rw [Nat.zero_add] at h4
  have h5 := Row.set h4 (show i + 5 < n by omega) u5
  rw [Nat.zero_add] at h5
  have h6 := Row.set h5 (show i + 6 < n by omega) u6
  rw [Nat.zero_add] at h6
  exact h6
theorem Only.set7 {lo hi : Nat} {w w' : World} {g i : Nat} (h : Only lo hi w w') (h1 : lo ≤ g) (h2 : g < hi) (u0 u1 u2 u3 u4 u5 u6 : Value) : Only lo hi w (((((((w'.setCell ⟨g, i, none⟩ u0).setCell ⟨g, i + 1, none⟩ u1).setCell ⟨g, i + 2, none⟩ u2).setCell ⟨g, i + 3, none⟩ u3).setCell ⟨g, i + 4, none⟩ u4).setCell ⟨g, i + 5, none⟩ u5).setCell ⟨g, i + 6, none⟩ u6) :=
  (((((((h.setCell (p := ⟨g, i, none⟩) h1 h2 u0).setCell (p := ⟨g, i + 1, none⟩) h1 h2 u1).setCell (p := ⟨g, i + 2, none⟩) h1 h2 u2).setCell (p := ⟨g, i + 3, none⟩) h1 h2 u3).setCell (p := ⟨g, i + 4, none⟩) h1 h2 u4).setCell (p := ⟨g, i + 5, none⟩) h1 h2 u5).setCell (p := ⟨g, i + 6, none⟩) h1 h2 u6)

theorem Tryz.info_Event7 : (Tryz.prog.info? 57).map (fun i => (i.zero, i.size, i.bytes)) = some (some (.agg #[.int .i64 0, .int .i64 0, .int .i64 0, .int .i64 0, .int .i64 0, .int .i64 0, .int .i64 0]), 7, 56) := by kernel_rfl


set_option maxHeartbeats 4000000 in
theorem implWindowsOf_any (lo hi : Nat) (A : Option Addr) (n c : Nat) (x : Nat → Int) (mm ev : Int) (w : World) (hn : n ≤ 9223372036854775807) (h : Sl w lo hi A (n * 7) (fun k => .int .i64 (x k))) :
    Calls Tryz.prog 10 #[.int .i64 mm, .slice A n c, .int .i64 ev] w fun e w' => e = .returned (.agg #[.int .i64 (wnd9 mm x n ev).1, .int .i64 (wnd9 mm x n ev).2]) ∧ Below w.heap.size w w' := by
  obtain ⟨w1, hw1⟩ : ∃ w1, w1 = w.alloc (.cells #[.int .i64 0, .int .i64 0] 29) := ⟨_, rfl⟩
  have K1 : Hid (w1.heap[w.heap.size]? = some (.cells #[.int .i64 0, .int .i64 0] 29 (0, 0))) := by show _ = _; rw [hw1]; exact heap_alloc_new w _
  have B1 : Hid (Below w.heap.size w w1) := by rw [hw1]; exact below_new w _
  have Z1 : Hid (w1.heap.size = w.heap.size + 1) := by show _ = _; rw [hw1]; simp
  have H := Lib.hid (h.lt.below B1.out (Nat.min_le_right _ _))
  have AS := Lib.hid (auditOf_any mm A n c ev w1 hn)
  have HW1 := Lib.hid hw1
  clear hw1 h
  go_enter Tryz.func10, Tryz.ntmps10
  go_upto_region 1 with (fail)
  rw [← HW1.out]
  clear HW1
  go_wp2_with fail
  refine AS.out.mono ?_
  rintro e w2 ⟨h, rfl, hh, hbad, hgood, hb⟩
  have B12 := Lib.hid hb
  have B2 := Lib.hid (B1.out.trans (hb.mono (by have := Z1.out; omega)))
  have K2 := Lib.hid ((hb.block w.heap.size (by have := Z1.out; omega)).trans K1.out)
  have H2 := Lib.hid (H.out.below hb (by have := Z1.out; omega))
  have HH := Lib.hid hh
  clear hb hh AS
  by_cases h0 : ask9 mm n ev = 0
  case neg =>
    have hk := hbad h0
    clear hgood hbad
    obtain ⟨q, hq⟩ : ∃ q, q = ask9 mm n ev := ⟨_, rfl⟩
    rw [← hq] at hk
    have E : Hid (wnd9 mm x n ev = (q, 0)) := by show _ = _; unfold wnd9; rw [if_pos h0, ← hq]
    have y : (q != 0) = true := by simp [hq, h0]
    have c0 := cell_of_row w2 _ 0 _ _ _ hk
    simp at c0
    have hblk := K2.out
    have p0 := cell_of_row _ _ 0 _ _ _ hblk
    have p1 := cell_of_row _ _ 1 _ _ _ hblk
    have f0 := frozen_of_row _ _ 0 _ _ hblk
    have f1 := frozen_of_row _ _ 1 _ _ hblk
    have HK := Lib.hid (fun a b => blk2_set hblk a b)
    simp at p0 p1
    clear hblk h0 hq hk
    go_wp2
    refine bodyPost_ret (results_cell_row rfl _ _ w.heap.size _ _ _ _ rfl (HK.out _ _) Tryz.underlying29 rfl (by kernel_rfl)) rfl ⟨by rw [E.out], ?_⟩
    exact (B2.out.setCell (Nat.le_refl _) _).setCell (Nat.le_refl _) _
  obtain ⟨p0, hJ⟩ := hgood h0
  have E : Hid (wnd9 mm x n ev = (0, (((tks (opens9 ev) (new3 mm) x n).length : Nat) : Int))) := by show _ = _; unfold wnd9; rw [if_neg (by simp [h0])]
  have ha := (ask9_zero h0).1
  have hk := hJ.box
  have c0 := cell_of_row w2 _ 0 _ _ _ hk
  simp at c0
  have TW := Lib.hid (ticksO_any hJ ha A c lo (min hi w.heap.size) x H2.out (by have := Z1.out; omega))
  have N4 := Lib.hid (rk3_good (x := x) ha).2.2
  clear hbad hgood hJ hk ha h0
  go_upto_region 4 with (fail)
  clear c0
  go_wp2_with fail
  refine TW.out.mono ?_
  rintro e w3 ⟨p', A4, c4, A5, m, c5, T, tn, tc, rfl, hJ, hb⟩
  have LT : Hid ((tks (opens9 ev) (new3 mm) x n).length = tn ∧ tn ≤ 400) := by
    have l1 := hJ.og.len
    have l2 := tks_le (opens9 ev) (new3 mm) x n
    have := N4.out
    simp only at l1
    show _ ∧ _
    omega
  have hblk := (hb.block w.heap.size (by have := Z1.out; omega)).trans K1.out
  have HB := Lib.hid (B1.out.trans (hb.mono (by have := Z1.out; omega)))
  have p0 := cell_of_row _ _ 0 _ _ _ hblk
  have p1 := cell_of_row _ _ 1 _ _ _ hblk
  have f0 := frozen_of_row _ _ 0 _ _ hblk
  have f1 := frozen_of_row _ _ 1 _ _ hblk
  have HK := Lib.hid (fun a b => blk2_set hblk a b)
  have hl := LT.out.2
  simp at p0 p1
  clear hblk hb hJ TW
  go_wp2
  refine bodyPost_ret (results_cell_row rfl _ _ w.heap.size _ _ _ _ rfl (HK.out _ _) Tryz.underlying29 rfl (by kernel_rfl)) rfl ⟨by rw [E.out, LT.out.1], ?_⟩
  exact (HB.out.setCell (Nat.le_refl _) _).setCell (Nat.le_refl _) _

end Go.Proofs.YtckapndpefkcgaaGreat
