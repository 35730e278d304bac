/-
  The small draws of chapter 3: an act, a call, a call with a fault, an event with a fault: each answers numbers, and turns nothing that was there but its own source. For codes of at most 2^20 bytes.
-/
import Derived.Test.YtckapndpefkcgaaGreatDraw2
set_option maxHeartbeats 1000000
namespace Go.Proofs.YtckapndpefkcgaaGreat
open Go.RowKit
set_option maxRecDepth 100000

theorem Only.setNew3 {g s j : Nat} {w W : World} (h : Only g (g + 1) w W) (hs : w.heap.size ≤ s) (hg : g < w.heap.size) (v : Value) : Only g (g + 1) w (W.setCell ⟨s, j, none⟩ v) :=
  ⟨h.1.setCell (p := ⟨s, j, none⟩) (by simp; omega) v, fun q h1 h2 => (Below.heap_setCell W ⟨s, j, none⟩ _ q (by simp; omega)).trans (h.2 q h1 h2)⟩
theorem Src.setOther3 {w : World} {g : Nat} {A : Option Addr} {k c a : Nat} (h : Src w g A k c a) {s : Nat} (hs : s ≠ g) (j : Nat) (v : Value) : Src (w.setCell ⟨s, j, none⟩ v) g A k c a :=
  (Below.heap_setCell _ _ _ _ (by simp; omega)).trans h

def ActD (g : Nat) (A : Option Addr) (k c a : Nat) (w : World) (e : Ending) (w' : World) : Prop :=
  ∃ (x y : Int) (a' : Nat), e = .returned (.agg #[.int .i64 x, .int .i64 y]) ∧ (x = 1 ∨ x = 2 ∨ x = 3) ∧ (0 ≤ y ∧ y < 4) ∧ a' ≤ a + 2 ∧ Src w' g A k c a' ∧ Only g (g + 1) w w'
def CallD (g : Nat) (A : Option Addr) (k c a : Nat) (w : World) (e : Ending) (w' : World) : Prop :=
  ∃ (x0 x1 x2 x3 : Int) (a' : Nat), e = .returned (.agg #[.int .i64 x0, .int .i64 x1, .int .i64 x2, .int .i64 x3]) ∧ a' ≤ a + 4 ∧ Src w' g A k c a' ∧ Only g (g + 1) w w'

set_option maxHeartbeats 2000000 in
theorem l3DrawAct_any (lo hi g : Nat) (A : Option Addr) (k c a : Nat) (b : Nat → Int) (w : World) (hk : k ≤ 1048576) (ha : a ≤ 1000000000)
    (hb : ∀ j, 0 ≤ b j ∧ b j ≤ 255) (h : Sl w lo hi A k (fun j => .int .u8 (b j))) (hg : hi ≤ g) (hs : Src w g A k c a) :
    Calls Tryz.prog 67 #[.pointer (some ⟨g, 0, none⟩)] w (ActD g A k c a w) := by
  have hgw := hs.lt
  have H := Lib.hid h
  have HBY := Lib.hid hb
  obtain ⟨w1, hw1⟩ : ∃ w1, w1 = w.alloc (.cells #[.int .i64 0, .int .i64 0] 53) := ⟨_, rfl⟩
  have K1 : Hid (w1.heap[w.heap.size]? = some (.cells #[.int .i64 0, .int .i64 0] 53 (0, 0))) := by show _ = _; rw [hw1]; exact heap_alloc_new w _
  have HE : Hid (Only g (g + 1) w w1) := by rw [hw1]; exact (Only.refl _ _ _).alloc (by omega) _
  have HS : Hid (Src w1 g A k c a) := by rw [hw1]; exact hs.alloc _
  have Z1 : Hid (w1.heap.size = w.heap.size + 1) := by show _ = _; rw [hw1]; simp
  have CD : Hid (∀ W, Only g (g + 1) w W → Sl W lo (min hi w.heap.size) A k (fun j => .int .u8 (b j))) := fun W hW => H.out.lt.only hW (by omega) (.inl (by omega))
  have KD : Hid (∀ V W : World, w.heap.size < V.heap.size → Only g (g + 1) V W → V.heap[w.heap.size]? = some (.cells #[.int .i64 0, .int .i64 0] 53 (0, 0)) → W.heap[w.heap.size]? = some (.cells #[.int .i64 0, .int .i64 0] 53 (0, 0)) ∧ w.heap.size < W.heap.size) := fun V W hz hW hK => ⟨(hW.2 _ (by omega) hz).trans hK, by have := hW.1.size; omega⟩
  have HW1 := Lib.hid hw1
  clear h hb hs hw1
  go_enter Tryz.func67, Tryz.ntmps67
  go_upto_region 1 with (fail)
  rw [← HW1.out]
  clear HW1
  have KK : Hid (w1.heap[w.heap.size]? = some (.cells #[.int .i64 0, .int .i64 0] 53 (0, 0)) ∧ w.heap.size < w1.heap.size) := ⟨K1.out, by have := Z1.out; omega⟩
  have CN := Lib.hid (l1Next_any lo (min hi w.heap.size) g A k c (a) 14 b w1 (by first | omega | exact HN.out) hk (by omega) HBY.out (CD.out w1 HE.out) (by omega) HS.out)
  go_wp2_with fail
  refine CN.out.mono ?_
  rintro e w2 ⟨r, rfl, hrr, _, hs, ho⟩
  have K2 := Lib.hid (KD.out _ _ KK.out.2 ho KK.out.1)
  have S2 := Lib.hid hs
  have O2 := Lib.hid (HE.out.trans ho)
  clear hs ho CN
  by_cases r0 : r = 0
  · subst r0
    have CN := Lib.hid (l1Next_any lo (min hi w.heap.size) g A k c (a + 1) 4 b w2 (by first | omega | exact HN.out) hk (by omega) HBY.out (CD.out w2 O2.out) (by omega) S2.out)
    go_wp2_with fail
    refine CN.out.mono ?_
    rintro e w3 ⟨y, rfl, hry, _, hs, ho⟩
    have K3 := Lib.hid (KD.out _ _ K2.out.2 ho K2.out.1)
    have S3 := Lib.hid hs
    have O3 := Lib.hid (O2.out.trans ho)
    clear hs ho CN
    have HY : Hid (0 ≤ (y : Int) ∧ (y : Int) < 4) := ⟨by omega, hry (by omega)⟩
    clear hrr hry
    have q0 := cell_of_row w3 _ 0 _ _ _ K3.out.1
    have q1 := cell_of_row w3 _ 1 _ _ _ K3.out.1
    have qf0 := frozen_of_row w3 _ 0 _ _ K3.out.1
    have qf1 := frozen_of_row w3 _ 1 _ _ K3.out.1
    simp at q0 q1
    have HK := Lib.hid (heap_setCell_same _ w.heap.size 1 _ _ (.int .i64 (y : Int)) (heap_setCell_same w3 w.heap.size 0 _ _ (.int .i64 3) K3.out.1))
    have OF := Lib.hid ((O3.out.setNew3 (j := 0) (Nat.le_refl _) hgw (.int .i64 3)).setNew3 (j := 1) (Nat.le_refl _) hgw (.int .i64 (y : Int)))
    have SF := Lib.hid ((S3.out.setOther3 (s := w.heap.size) (by omega) 0 (.int .i64 3)).setOther3 (s := w.heap.size) (by omega) 1 (.int .i64 (y : Int)))
    go_wp2
    refine bodyPost_ret (results_cell_row rfl _ _ w.heap.size _ _ (0, 0) _ rfl HK.out Tryz.underlying53 rfl (by kernel_rfl)) rfl ?_
    exact ⟨3, (y : Int), a + 1 + 1, rfl, .inr (.inr rfl), HY.out, by omega, SF.out, OF.out⟩
  by_cases r1 : r = 1
  · subst r1
    clear hrr
    have q0 := cell_of_row w2 _ 0 _ _ _ K2.out.1
    have q1 := cell_of_row w2 _ 1 _ _ _ K2.out.1
    have qf0 := frozen_of_row w2 _ 0 _ _ K2.out.1
    have qf1 := frozen_of_row w2 _ 1 _ _ K2.out.1
    simp at q0 q1
    have HK := Lib.hid (heap_setCell_same _ w.heap.size 1 _ _ (.int .i64 0) (heap_setCell_same w2 w.heap.size 0 _ _ (.int .i64 2) K2.out.1))
    have OF := Lib.hid ((O2.out.setNew3 (j := 0) (Nat.le_refl _) hgw (.int .i64 2)).setNew3 (j := 1) (Nat.le_refl _) hgw (.int .i64 0))
    have SF := Lib.hid ((S2.out.setOther3 (s := w.heap.size) (by omega) 0 (.int .i64 2)).setOther3 (s := w.heap.size) (by omega) 1 (.int .i64 0))
    go_wp2
    refine bodyPost_ret (results_cell_row rfl _ _ w.heap.size _ _ (0, 0) _ rfl HK.out Tryz.underlying53 rfl (by kernel_rfl)) rfl ?_
    exact ⟨2, 0, a + 1, rfl, .inr (.inl rfl), by omega, by omega, SF.out, OF.out⟩
  by_cases r2 : r = 2
  · subst r2
    clear hrr
    have q0 := cell_of_row w2 _ 0 _ _ _ K2.out.1
    have q1 := cell_of_row w2 _ 1 _ _ _ K2.out.1
    have qf0 := frozen_of_row w2 _ 0 _ _ K2.out.1
    have qf1 := frozen_of_row w2 _ 1 _ _ K2.out.1
    simp at q0 q1
    have HK := Lib.hid (heap_setCell_same _ w.heap.size 1 _ _ (.int .i64 0) (heap_setCell_same w2 w.heap.size 0 _ _ (.int .i64 2) K2.out.1))
    have OF := Lib.hid ((O2.out.setNew3 (j := 0) (Nat.le_refl _) hgw (.int .i64 2)).setNew3 (j := 1) (Nat.le_refl _) hgw (.int .i64 0))
    have SF := Lib.hid ((S2.out.setOther3 (s := w.heap.size) (by omega) 0 (.int .i64 2)).setOther3 (s := w.heap.size) (by omega) 1 (.int .i64 0))
    go_wp2
    refine bodyPost_ret (results_cell_row rfl _ _ w.heap.size _ _ (0, 0) _ rfl HK.out Tryz.underlying53 rfl (by kernel_rfl)) rfl ?_
    exact ⟨2, 0, a + 1, rfl, .inr (.inl rfl), by omega, by omega, SF.out, OF.out⟩
  have n0 : ¬ ((r : Int) = 0) := by omega
  have n1 : ¬ ((r : Int) = 1) := by omega
  have n2 : ¬ ((r : Int) = 2) := by omega
  generalize (r : Int) = ri at *
  clear hrr
  have q0 := cell_of_row w2 _ 0 _ _ _ K2.out.1
  have q1 := cell_of_row w2 _ 1 _ _ _ K2.out.1
  have qf0 := frozen_of_row w2 _ 0 _ _ K2.out.1
  have qf1 := frozen_of_row w2 _ 1 _ _ K2.out.1
  simp at q0 q1
  have HK := Lib.hid (heap_setCell_same _ w.heap.size 1 _ _ (.int .i64 0) (heap_setCell_same w2 w.heap.size 0 _ _ (.int .i64 1) K2.out.1))
  have OF := Lib.hid ((O2.out.setNew3 (j := 0) (Nat.le_refl _) hgw (.int .i64 1)).setNew3 (j := 1) (Nat.le_refl _) hgw (.int .i64 0))
  have SF := Lib.hid ((S2.out.setOther3 (s := w.heap.size) (by omega) 0 (.int .i64 1)).setOther3 (s := w.heap.size) (by omega) 1 (.int .i64 0))
  go_wp2
  refine bodyPost_ret (results_cell_row rfl _ _ w.heap.size _ _ (0, 0) _ rfl HK.out Tryz.underlying53 rfl (by kernel_rfl)) rfl ?_
  exact ⟨1, 0, a + 1, rfl, .inl rfl, by omega, by omega, SF.out, OF.out⟩

set_option maxHeartbeats 2000000 in
theorem l3DrawCall_any (lo hi g : Nat) (A : Option Addr) (k c a : Nat) (b : Nat → Int) (sl : Int) (w : World) (hk : k ≤ 1048576) (ha : a ≤ 1000000000)
    (hb : ∀ j, 0 ≤ b j ∧ b j ≤ 255) (h : Sl w lo hi A k (fun j => .int .u8 (b j))) (hg : hi ≤ g) (hs : Src w g A k c a) (hn : -9223372036854775808 ≤ sl ∧ sl ≤ 9223372036854775807) :
    Calls Tryz.prog 83 #[.pointer (some ⟨g, 0, none⟩), .int .i64 sl] w (CallD g A k c a w) := by
  have hgw := hs.lt
  have HN := Lib.hid hn
  clear hn
  have H := Lib.hid h
  have HBY := Lib.hid hb
  obtain ⟨w1, hw1⟩ : ∃ w1, w1 = w.alloc (.cells #[.int .i64 0, .int .i64 0, .int .i64 0, .int .i64 0] 55) := ⟨_, rfl⟩
  have K1 : Hid (w1.heap[w.heap.size]? = some (.cells #[.int .i64 0, .int .i64 0, .int .i64 0, .int .i64 0] 55 (0, 0))) := by show _ = _; rw [hw1]; exact heap_alloc_new w _
  have HE : Hid (Only g (g + 1) w w1) := by rw [hw1]; exact (Only.refl _ _ _).alloc (by omega) _
  have HS : Hid (Src w1 g A k c a) := by rw [hw1]; exact hs.alloc _
  have Z1 : Hid (w1.heap.size = w.heap.size + 1) := by show _ = _; rw [hw1]; simp
  have CD : Hid (∀ W, Only g (g + 1) w W → Sl W lo (min hi w.heap.size) A k (fun j => .int .u8 (b j))) := fun W hW => H.out.lt.only hW (by omega) (.inl (by omega))
  have KD : Hid (∀ V W : World, w.heap.size < V.heap.size → Only g (g + 1) V W → V.heap[w.heap.size]? = some (.cells #[.int .i64 0, .int .i64 0, .int .i64 0, .int .i64 0] 55 (0, 0)) → W.heap[w.heap.size]? = some (.cells #[.int .i64 0, .int .i64 0, .int .i64 0, .int .i64 0] 55 (0, 0)) ∧ w.heap.size < W.heap.size) := fun V W hz hW hK => ⟨(hW.2 _ (by omega) hz).trans hK, by have := hW.1.size; omega⟩
  have HW1 := Lib.hid hw1
  clear h hb hs hw1
  go_enter Tryz.func83, Tryz.ntmps83
  go_upto_region 1 with (fail)
  rw [← HW1.out]
  clear HW1
  have KK : Hid (w1.heap[w.heap.size]? = some (.cells #[.int .i64 0, .int .i64 0, .int .i64 0, .int .i64 0] 55 (0, 0)) ∧ w.heap.size < w1.heap.size) := ⟨K1.out, by have := Z1.out; omega⟩
  have CN := Lib.hid (l1Next_any lo (min hi w.heap.size) g A k c (a) 4 b w1 (by first | omega | exact HN.out) hk (by omega) HBY.out (CD.out w1 HE.out) (by omega) HS.out)
  go_wp2_with fail
  refine CN.out.mono ?_
  rintro e w2 ⟨x, rfl, hrx, _, hs, ho⟩
  have K2 := Lib.hid (KD.out _ _ KK.out.2 ho KK.out.1)
  have S2 := Lib.hid hs
  have O2 := Lib.hid (HE.out.trans ho)
  clear hs ho CN
  have CN := Lib.hid (l1Next_any lo (min hi w.heap.size) g A k c (a + 1) 12 b w2 (by first | omega | exact HN.out) hk (by omega) HBY.out (CD.out w2 O2.out) (by omega) S2.out)
  go_wp2_with fail
  refine CN.out.mono ?_
  rintro e w3 ⟨r, rfl, hrr, _, hs, ho⟩
  have K3 := Lib.hid (KD.out _ _ K2.out.2 ho K2.out.1)
  have S3 := Lib.hid hs
  have O3 := Lib.hid (O2.out.trans ho)
  clear hs ho CN
  clear hrx hrr
  by_cases r0 : r = 0
  · subst r0
    have q0 := cell_of_row w3 _ 0 _ _ _ K3.out.1
    have q1 := cell_of_row w3 _ 1 _ _ _ K3.out.1
    have q2 := cell_of_row w3 _ 2 _ _ _ K3.out.1
    have q3 := cell_of_row w3 _ 3 _ _ _ K3.out.1
    have qf0 := frozen_of_row w3 _ 0 _ _ K3.out.1
    have qf1 := frozen_of_row w3 _ 1 _ _ K3.out.1
    have qf2 := frozen_of_row w3 _ 2 _ _ K3.out.1
    have qf3 := frozen_of_row w3 _ 3 _ _ K3.out.1
    simp at q0 q1 q2 q3
    have HK := Lib.hid (heap_setCell_same _ w.heap.size 3 _ _ (.int .i64 0) (heap_setCell_same _ w.heap.size 2 _ _ (.int .i64 0) (heap_setCell_same _ w.heap.size 1 _ _ (.int .i64 (x : Int)) (heap_setCell_same w3 w.heap.size 0 _ _ (.int .i64 2) K3.out.1))))
    have OF := Lib.hid ((((O3.out.setNew3 (j := 0) (Nat.le_refl _) hgw (.int .i64 2)).setNew3 (j := 1) (Nat.le_refl _) hgw (.int .i64 (x : Int))).setNew3 (j := 2) (Nat.le_refl _) hgw (.int .i64 0)).setNew3 (j := 3) (Nat.le_refl _) hgw (.int .i64 0))
    have SF := Lib.hid ((((S3.out.setOther3 (s := w.heap.size) (by omega) 0 (.int .i64 2)).setOther3 (s := w.heap.size) (by omega) 1 (.int .i64 (x : Int))).setOther3 (s := w.heap.size) (by omega) 2 (.int .i64 0)).setOther3 (s := w.heap.size) (by omega) 3 (.int .i64 0))
    go_wp2
    refine bodyPost_ret (results_cell_row rfl _ _ w.heap.size _ _ (0, 0) _ rfl HK.out Tryz.underlying55 rfl (by kernel_rfl)) rfl ?_
    exact ⟨2, x, 0, 0, a + 1 + 1, rfl, by omega, SF.out, OF.out⟩
  by_cases r1 : r = 1
  · subst r1
    have q0 := cell_of_row w3 _ 0 _ _ _ K3.out.1
    have q1 := cell_of_row w3 _ 1 _ _ _ K3.out.1
    have q2 := cell_of_row w3 _ 2 _ _ _ K3.out.1
    have q3 := cell_of_row w3 _ 3 _ _ _ K3.out.1
    have qf0 := frozen_of_row w3 _ 0 _ _ K3.out.1
    have qf1 := frozen_of_row w3 _ 1 _ _ K3.out.1
    have qf2 := frozen_of_row w3 _ 2 _ _ K3.out.1
    have qf3 := frozen_of_row w3 _ 3 _ _ K3.out.1
    simp at q0 q1 q2 q3
    have HK := Lib.hid (heap_setCell_same _ w.heap.size 3 _ _ (.int .i64 0) (heap_setCell_same _ w.heap.size 2 _ _ (.int .i64 0) (heap_setCell_same _ w.heap.size 1 _ _ (.int .i64 (x : Int)) (heap_setCell_same w3 w.heap.size 0 _ _ (.int .i64 1) K3.out.1))))
    have OF := Lib.hid ((((O3.out.setNew3 (j := 0) (Nat.le_refl _) hgw (.int .i64 1)).setNew3 (j := 1) (Nat.le_refl _) hgw (.int .i64 (x : Int))).setNew3 (j := 2) (Nat.le_refl _) hgw (.int .i64 0)).setNew3 (j := 3) (Nat.le_refl _) hgw (.int .i64 0))
    have SF := Lib.hid ((((S3.out.setOther3 (s := w.heap.size) (by omega) 0 (.int .i64 1)).setOther3 (s := w.heap.size) (by omega) 1 (.int .i64 (x : Int))).setOther3 (s := w.heap.size) (by omega) 2 (.int .i64 0)).setOther3 (s := w.heap.size) (by omega) 3 (.int .i64 0))
    go_wp2
    refine bodyPost_ret (results_cell_row rfl _ _ w.heap.size _ _ (0, 0) _ rfl HK.out Tryz.underlying55 rfl (by kernel_rfl)) rfl ?_
    exact ⟨1, x, 0, 0, a + 1 + 1, rfl, by omega, SF.out, OF.out⟩
  by_cases r2 : r = 2
  · subst r2
    have q0 := cell_of_row w3 _ 0 _ _ _ K3.out.1
    have q1 := cell_of_row w3 _ 1 _ _ _ K3.out.1
    have q2 := cell_of_row w3 _ 2 _ _ _ K3.out.1
    have q3 := cell_of_row w3 _ 3 _ _ _ K3.out.1
    have qf0 := frozen_of_row w3 _ 0 _ _ K3.out.1
    have qf1 := frozen_of_row w3 _ 1 _ _ K3.out.1
    have qf2 := frozen_of_row w3 _ 2 _ _ K3.out.1
    have qf3 := frozen_of_row w3 _ 3 _ _ K3.out.1
    simp at q0 q1 q2 q3
    have HK := Lib.hid (heap_setCell_same _ w.heap.size 3 _ _ (.int .i64 0) (heap_setCell_same _ w.heap.size 2 _ _ (.int .i64 0) (heap_setCell_same _ w.heap.size 1 _ _ (.int .i64 (x : Int)) (heap_setCell_same w3 w.heap.size 0 _ _ (.int .i64 1) K3.out.1))))
    have OF := Lib.hid ((((O3.out.setNew3 (j := 0) (Nat.le_refl _) hgw (.int .i64 1)).setNew3 (j := 1) (Nat.le_refl _) hgw (.int .i64 (x : Int))).setNew3 (j := 2) (Nat.le_refl _) hgw (.int .i64 0)).setNew3 (j := 3) (Nat.le_refl _) hgw (.int .i64 0))
    have SF := Lib.hid ((((S3.out.setOther3 (s := w.heap.size) (by omega) 0 (.int .i64 1)).setOther3 (s := w.heap.size) (by omega) 1 (.int .i64 (x : Int))).setOther3 (s := w.heap.size) (by omega) 2 (.int .i64 0)).setOther3 (s := w.heap.size) (by omega) 3 (.int .i64 0))
    go_wp2
    refine bodyPost_ret (results_cell_row rfl _ _ w.heap.size _ _ (0, 0) _ rfl HK.out Tryz.underlying55 rfl (by kernel_rfl)) rfl ?_
    exact ⟨1, x, 0, 0, a + 1 + 1, rfl, by omega, SF.out, OF.out⟩
  by_cases r3 : r = 3
  · subst r3
    have q0 := cell_of_row w3 _ 0 _ _ _ K3.out.1
    have q1 := cell_of_row w3 _ 1 _ _ _ K3.out.1
    have q2 := cell_of_row w3 _ 2 _ _ _ K3.out.1
    have q3 := cell_of_row w3 _ 3 _ _ _ K3.out.1
    have qf0 := frozen_of_row w3 _ 0 _ _ K3.out.1
    have qf1 := frozen_of_row w3 _ 1 _ _ K3.out.1
    have qf2 := frozen_of_row w3 _ 2 _ _ K3.out.1
    have qf3 := frozen_of_row w3 _ 3 _ _ K3.out.1
    simp at q0 q1 q2 q3
    have HK := Lib.hid (heap_setCell_same _ w.heap.size 3 _ _ (.int .i64 0) (heap_setCell_same _ w.heap.size 2 _ _ (.int .i64 0) (heap_setCell_same _ w.heap.size 1 _ _ (.int .i64 (x : Int)) (heap_setCell_same w3 w.heap.size 0 _ _ (.int .i64 1) K3.out.1))))
    have OF := Lib.hid ((((O3.out.setNew3 (j := 0) (Nat.le_refl _) hgw (.int .i64 1)).setNew3 (j := 1) (Nat.le_refl _) hgw (.int .i64 (x : Int))).setNew3 (j := 2) (Nat.le_refl _) hgw (.int .i64 0)).setNew3 (j := 3) (Nat.le_refl _) hgw (.int .i64 0))
    have SF := Lib.hid ((((S3.out.setOther3 (s := w.heap.size) (by omega) 0 (.int .i64 1)).setOther3 (s := w.heap.size) (by omega) 1 (.int .i64 (x : Int))).setOther3 (s := w.heap.size) (by omega) 2 (.int .i64 0)).setOther3 (s := w.heap.size) (by omega) 3 (.int .i64 0))
    go_wp2
    refine bodyPost_ret (results_cell_row rfl _ _ w.heap.size _ _ (0, 0) _ rfl HK.out Tryz.underlying55 rfl (by kernel_rfl)) rfl ?_
    exact ⟨1, x, 0, 0, a + 1 + 1, rfl, by omega, SF.out, OF.out⟩
  by_cases r4 : r = 4
  · subst r4
    have CN := Lib.hid (l1Next_any lo (min hi w.heap.size) g A k c (a + 1 + 1) sl b w3 (by first | omega | exact HN.out) hk (by omega) HBY.out (CD.out w3 O3.out) (by omega) S3.out)
    go_wp2_with fail
    refine CN.out.mono ?_
    rintro e w4 ⟨y, rfl, hry, _, hs, ho⟩
    have K4 := Lib.hid (KD.out _ _ K3.out.2 ho K3.out.1)
    have S4 := Lib.hid hs
    have O4 := Lib.hid (O3.out.trans ho)
    clear hs ho CN
    clear hry
    have q0 := cell_of_row w4 _ 0 _ _ _ K4.out.1
    have q1 := cell_of_row w4 _ 1 _ _ _ K4.out.1
    have q2 := cell_of_row w4 _ 2 _ _ _ K4.out.1
    have q3 := cell_of_row w4 _ 3 _ _ _ K4.out.1
    have qf0 := frozen_of_row w4 _ 0 _ _ K4.out.1
    have qf1 := frozen_of_row w4 _ 1 _ _ K4.out.1
    have qf2 := frozen_of_row w4 _ 2 _ _ K4.out.1
    have qf3 := frozen_of_row w4 _ 3 _ _ K4.out.1
    simp at q0 q1 q2 q3
    have HK := Lib.hid (heap_setCell_same _ w.heap.size 3 _ _ (.int .i64 0) (heap_setCell_same _ w.heap.size 2 _ _ (.int .i64 (y : Int)) (heap_setCell_same _ w.heap.size 1 _ _ (.int .i64 (x : Int)) (heap_setCell_same w4 w.heap.size 0 _ _ (.int .i64 4) K4.out.1))))
    have OF := Lib.hid ((((O4.out.setNew3 (j := 0) (Nat.le_refl _) hgw (.int .i64 4)).setNew3 (j := 1) (Nat.le_refl _) hgw (.int .i64 (x : Int))).setNew3 (j := 2) (Nat.le_refl _) hgw (.int .i64 (y : Int))).setNew3 (j := 3) (Nat.le_refl _) hgw (.int .i64 0))
    have SF := Lib.hid ((((S4.out.setOther3 (s := w.heap.size) (by omega) 0 (.int .i64 4)).setOther3 (s := w.heap.size) (by omega) 1 (.int .i64 (x : Int))).setOther3 (s := w.heap.size) (by omega) 2 (.int .i64 (y : Int))).setOther3 (s := w.heap.size) (by omega) 3 (.int .i64 0))
    go_wp2
    refine bodyPost_ret (results_cell_row rfl _ _ w.heap.size _ _ (0, 0) _ rfl HK.out Tryz.underlying55 rfl (by kernel_rfl)) rfl ?_
    exact ⟨4, x, y, 0, a + 1 + 1 + 1, rfl, by omega, SF.out, OF.out⟩
  by_cases r5 : r = 5
  · subst r5
    have CN := Lib.hid (l1Next_any lo (min hi w.heap.size) g A k c (a + 1 + 1) sl b w3 (by first | omega | exact HN.out) hk (by omega) HBY.out (CD.out w3 O3.out) (by omega) S3.out)
    go_wp2_with fail
    refine CN.out.mono ?_
    rintro e w4 ⟨y, rfl, hry, _, hs, ho⟩
    have K4 := Lib.hid (KD.out _ _ K3.out.2 ho K3.out.1)
    have S4 := Lib.hid hs
    have O4 := Lib.hid (O3.out.trans ho)
    clear hs ho CN
    clear hry
    have CN := Lib.hid (l1Next_any lo (min hi w.heap.size) g A k c (a + 1 + 1 + 1) 4 b w4 (by first | omega | exact HN.out) hk (by omega) HBY.out (CD.out w4 O4.out) (by omega) S4.out)
    go_wp2_with fail
    refine CN.out.mono ?_
    rintro e w5 ⟨z, rfl, hrz, _, hs, ho⟩
    have K5 := Lib.hid (KD.out _ _ K4.out.2 ho K4.out.1)
    have S5 := Lib.hid hs
    have O5 := Lib.hid (O4.out.trans ho)
    clear hs ho CN
    clear hrz
    have q0 := cell_of_row w5 _ 0 _ _ _ K5.out.1
    have q1 := cell_of_row w5 _ 1 _ _ _ K5.out.1
    have q2 := cell_of_row w5 _ 2 _ _ _ K5.out.1
    have q3 := cell_of_row w5 _ 3 _ _ _ K5.out.1
    have qf0 := frozen_of_row w5 _ 0 _ _ K5.out.1
    have qf1 := frozen_of_row w5 _ 1 _ _ K5.out.1
    have qf2 := frozen_of_row w5 _ 2 _ _ K5.out.1
    have qf3 := frozen_of_row w5 _ 3 _ _ K5.out.1
    simp at q0 q1 q2 q3
    have HK := Lib.hid (heap_setCell_same _ w.heap.size 3 _ _ (.int .i64 (z : Int)) (heap_setCell_same _ w.heap.size 2 _ _ (.int .i64 (y : Int)) (heap_setCell_same _ w.heap.size 1 _ _ (.int .i64 (x : Int)) (heap_setCell_same w5 w.heap.size 0 _ _ (.int .i64 5) K5.out.1))))
    have OF := Lib.hid ((((O5.out.setNew3 (j := 0) (Nat.le_refl _) hgw (.int .i64 5)).setNew3 (j := 1) (Nat.le_refl _) hgw (.int .i64 (x : Int))).setNew3 (j := 2) (Nat.le_refl _) hgw (.int .i64 (y : Int))).setNew3 (j := 3) (Nat.le_refl _) hgw (.int .i64 (z : Int)))
    have SF := Lib.hid ((((S5.out.setOther3 (s := w.heap.size) (by omega) 0 (.int .i64 5)).setOther3 (s := w.heap.size) (by omega) 1 (.int .i64 (x : Int))).setOther3 (s := w.heap.size) (by omega) 2 (.int .i64 (y : Int))).setOther3 (s := w.heap.size) (by omega) 3 (.int .i64 (z : Int)))
    go_wp2
    refine bodyPost_ret (results_cell_row rfl _ _ w.heap.size _ _ (0, 0) _ rfl HK.out Tryz.underlying55 rfl (by kernel_rfl)) rfl ?_
    exact ⟨5, x, y, z, a + 1 + 1 + 1 + 1, rfl, by omega, SF.out, OF.out⟩
  by_cases r6 : r = 6
  · subst r6
    have CN := Lib.hid (l1Next_any lo (min hi w.heap.size) g A k c (a + 1 + 1) sl b w3 (by first | omega | exact HN.out) hk (by omega) HBY.out (CD.out w3 O3.out) (by omega) S3.out)
    go_wp2_with fail
    refine CN.out.mono ?_
    rintro e w4 ⟨y, rfl, hry, _, hs, ho⟩
    have K4 := Lib.hid (KD.out _ _ K3.out.2 ho K3.out.1)
    have S4 := Lib.hid hs
    have O4 := Lib.hid (O3.out.trans ho)
    clear hs ho CN
    clear hry
    have CN := Lib.hid (l1Next_any lo (min hi w.heap.size) g A k c (a + 1 + 1 + 1) 4 b w4 (by first | omega | exact HN.out) hk (by omega) HBY.out (CD.out w4 O4.out) (by omega) S4.out)
    go_wp2_with fail
    refine CN.out.mono ?_
    rintro e w5 ⟨z, rfl, hrz, _, hs, ho⟩
    have K5 := Lib.hid (KD.out _ _ K4.out.2 ho K4.out.1)
    have S5 := Lib.hid hs
    have O5 := Lib.hid (O4.out.trans ho)
    clear hs ho CN
    clear hrz
    have q0 := cell_of_row w5 _ 0 _ _ _ K5.out.1
    have q1 := cell_of_row w5 _ 1 _ _ _ K5.out.1
    have q2 := cell_of_row w5 _ 2 _ _ _ K5.out.1
    have q3 := cell_of_row w5 _ 3 _ _ _ K5.out.1
    have qf0 := frozen_of_row w5 _ 0 _ _ K5.out.1
    have qf1 := frozen_of_row w5 _ 1 _ _ K5.out.1
    have qf2 := frozen_of_row w5 _ 2 _ _ K5.out.1
    have qf3 := frozen_of_row w5 _ 3 _ _ K5.out.1
    simp at q0 q1 q2 q3
    have HK := Lib.hid (heap_setCell_same _ w.heap.size 3 _ _ (.int .i64 (z : Int)) (heap_setCell_same _ w.heap.size 2 _ _ (.int .i64 (y : Int)) (heap_setCell_same _ w.heap.size 1 _ _ (.int .i64 (x : Int)) (heap_setCell_same w5 w.heap.size 0 _ _ (.int .i64 5) K5.out.1))))
    have OF := Lib.hid ((((O5.out.setNew3 (j := 0) (Nat.le_refl _) hgw (.int .i64 5)).setNew3 (j := 1) (Nat.le_refl _) hgw (.int .i64 (x : Int))).setNew3 (j := 2) (Nat.le_refl _) hgw (.int .i64 (y : Int))).setNew3 (j := 3) (Nat.le_refl _) hgw (.int .i64 (z : Int)))
    have SF := Lib.hid ((((S5.out.setOther3 (s := w.heap.size) (by omega) 0 (.int .i64 5)).setOther3 (s := w.heap.size) (by omega) 1 (.int .i64 (x : Int))).setOther3 (s := w.heap.size) (by omega) 2 (.int .i64 (y : Int))).setOther3 (s := w.heap.size) (by omega) 3 (.int .i64 (z : Int)))
    go_wp2
    refine bodyPost_ret (results_cell_row rfl _ _ w.heap.size _ _ (0, 0) _ rfl HK.out Tryz.underlying55 rfl (by kernel_rfl)) rfl ?_
    exact ⟨5, x, y, z, a + 1 + 1 + 1 + 1, rfl, by omega, SF.out, OF.out⟩
  have n0 : ¬ ((r : Int) = 0) := by omega
  have n1 : ¬ ((r : Int) = 1) := by omega
  have n2 : ¬ ((r : Int) = 2) := by omega
  have n3 : ¬ ((r : Int) = 3) := by omega
  have n4 : ¬ ((r : Int) = 4) := by omega
  have n5 : ¬ ((r : Int) = 5) := by omega
  have n6 : ¬ ((r : Int) = 6) := by omega
  generalize (r : Int) = ri at *
  have CN := Lib.hid (l1Next_any lo (min hi w.heap.size) g A k c (a + 1 + 1) sl b w3 (by first | omega | exact HN.out) hk (by omega) HBY.out (CD.out w3 O3.out) (by omega) S3.out)
  go_wp2_with fail
  refine CN.out.mono ?_
  rintro e w4 ⟨y, rfl, hry, _, hs, ho⟩
  have K4 := Lib.hid (KD.out _ _ K3.out.2 ho K3.out.1)
  have S4 := Lib.hid hs
  have O4 := Lib.hid (O3.out.trans ho)
  clear hs ho CN
  clear hry
  have q0 := cell_of_row w4 _ 0 _ _ _ K4.out.1
  have q1 := cell_of_row w4 _ 1 _ _ _ K4.out.1
  have q2 := cell_of_row w4 _ 2 _ _ _ K4.out.1
  have q3 := cell_of_row w4 _ 3 _ _ _ K4.out.1
  have qf0 := frozen_of_row w4 _ 0 _ _ K4.out.1
  have qf1 := frozen_of_row w4 _ 1 _ _ K4.out.1
  have qf2 := frozen_of_row w4 _ 2 _ _ K4.out.1
  have qf3 := frozen_of_row w4 _ 3 _ _ K4.out.1
  simp at q0 q1 q2 q3
  have HK := Lib.hid (heap_setCell_same _ w.heap.size 3 _ _ (.int .i64 0) (heap_setCell_same _ w.heap.size 2 _ _ (.int .i64 (y : Int)) (heap_setCell_same _ w.heap.size 1 _ _ (.int .i64 (x : Int)) (heap_setCell_same w4 w.heap.size 0 _ _ (.int .i64 3) K4.out.1))))
  have OF := Lib.hid ((((O4.out.setNew3 (j := 0) (Nat.le_refl _) hgw (.int .i64 3)).setNew3 (j := 1) (Nat.le_refl _) hgw (.int .i64 (x : Int))).setNew3 (j := 2) (Nat.le_refl _) hgw (.int .i64 (y : Int))).setNew3 (j := 3) (Nat.le_refl _) hgw (.int .i64 0))
  have SF := Lib.hid ((((S4.out.setOther3 (s := w.heap.size) (by omega) 0 (.int .i64 3)).setOther3 (s := w.heap.size) (by omega) 1 (.int .i64 (x : Int))).setOther3 (s := w.heap.size) (by omega) 2 (.int .i64 (y : Int))).setOther3 (s := w.heap.size) (by omega) 3 (.int .i64 0))
  go_wp2
  refine bodyPost_ret (results_cell_row rfl _ _ w.heap.size _ _ (0, 0) _ rfl HK.out Tryz.underlying55 rfl (by kernel_rfl)) rfl ?_
  exact ⟨3, x, y, 0, a + 1 + 1 + 1, rfl, by omega, SF.out, OF.out⟩

structure CF3 (w W : World) (g s : Nat) (A : Option Addr) (k c a : Nat) (u0 u1 u2 u3 : Int) : Prop where
  kb : W.heap[s]? = some (.cells #[.int .i64 u0, .int .i64 u1, .int .i64 u2, .int .i64 u3] 55 (0, 0))
  kr : W.heap[w.heap.size]? = some (.cells #[.int .i64 0, .int .i64 0, .int .i64 0, .int .i64 0] 55 (0, 0))
  sr : Src W g A k c a
  on : Below w.heap.size w W
  wg : w.heap.size < g
  gs : g < s
section
variable {w W W' : World} {g s k c a a' : Nat} {A : Option Addr} {u0 u1 u2 u3 : Int}
theorem CF3.step (h : CF3 w W g s A k c a u0 u1 u2 u3) (hs : Src W' g A k c a') (ho : Only g (g + 1) W W') : CF3 w W' g s A k c a' u0 u1 u2 u3 :=
  have z := (Array.getElem?_eq_some_iff.1 h.kb).1
  ⟨(ho.2 s (by have := h.gs; omega) z).trans h.kb, (ho.1.block w.heap.size h.wg).trans h.kr, hs, h.on.trans (ho.1.mono (by have := h.wg; omega)), h.wg, h.gs⟩
theorem CF3.new (h : CF3 w W g s A k c a u0 u1 u2 u3) (o : Obj) : CF3 w (W.alloc o) g s A k c a u0 u1 u2 u3 :=
  ⟨(Below.heap_alloc W o s (Array.getElem?_eq_some_iff.1 h.kb).1).trans h.kb, (Below.heap_alloc W o _ (Array.getElem?_eq_some_iff.1 h.kr).1).trans h.kr, h.sr.alloc o, h.on.trans ((below_new W o).mono h.on.size), h.wg, h.gs⟩
theorem CF3.calls (h : CF3 w W g s A k c a u0 u1 u2 u3) (hb : Below W.heap.size W W') : CF3 w W' g s A k c a u0 u1 u2 u3 :=
  ⟨(hb.block s (Array.getElem?_eq_some_iff.1 h.kb).1).trans h.kb, (hb.block _ (Array.getElem?_eq_some_iff.1 h.kr).1).trans h.kr, h.sr.below hb, h.on.trans (hb.mono h.on.size), h.wg, h.gs⟩
theorem CF3.set0 (h : CF3 w W g s A k c a u0 u1 u2 u3) (v : Int) : CF3 w (W.setCell ⟨s, 0, none⟩ (.int .i64 v)) g s A k c a v u1 u2 u3 :=
  ⟨heap_setCell_same _ _ 0 _ _ _ h.kb, (Below.heap_setCell _ _ _ _ (by simp; have := h.wg; have := h.gs; omega)).trans h.kr, h.sr.setOther3 (by have := h.gs; omega) 0 _, h.on.setCell (p := ⟨s, 0, none⟩) (by simp; have := h.wg; have := h.gs; omega) _, h.wg, h.gs⟩
theorem CF3.set1 (h : CF3 w W g s A k c a u0 u1 u2 u3) (v : Int) : CF3 w (W.setCell ⟨s, 1, none⟩ (.int .i64 v)) g s A k c a u0 v u2 u3 :=
  ⟨heap_setCell_same _ _ 1 _ _ _ h.kb, (Below.heap_setCell _ _ _ _ (by simp; have := h.wg; have := h.gs; omega)).trans h.kr, h.sr.setOther3 (by have := h.gs; omega) 1 _, h.on.setCell (p := ⟨s, 1, none⟩) (by simp; have := h.wg; have := h.gs; omega) _, h.wg, h.gs⟩
theorem CF3.set2 (h : CF3 w W g s A k c a u0 u1 u2 u3) (v : Int) : CF3 w (W.setCell ⟨s, 2, none⟩ (.int .i64 v)) g s A k c a u0 u1 v u3 :=
  ⟨heap_setCell_same _ _ 2 _ _ _ h.kb, (Below.heap_setCell _ _ _ _ (by simp; have := h.wg; have := h.gs; omega)).trans h.kr, h.sr.setOther3 (by have := h.gs; omega) 2 _, h.on.setCell (p := ⟨s, 2, none⟩) (by simp; have := h.wg; have := h.gs; omega) _, h.wg, h.gs⟩
theorem CF3.set3 (h : CF3 w W g s A k c a u0 u1 u2 u3) (v : Int) : CF3 w (W.setCell ⟨s, 3, none⟩ (.int .i64 v)) g s A k c a u0 u1 u2 v :=
  ⟨heap_setCell_same _ _ 3 _ _ _ h.kb, (Below.heap_setCell _ _ _ _ (by simp; have := h.wg; have := h.gs; omega)).trans h.kr, h.sr.setOther3 (by have := h.gs; omega) 3 _, h.on.setCell (p := ⟨s, 3, none⟩) (by simp; have := h.wg; have := h.gs; omega) _, h.wg, h.gs⟩
end

def CallF (w : World) (e : Ending) (w' : World) : Prop := ∃ x0 x1 x2 x3 : Int, e = .returned (.agg #[.int .i64 x0, .int .i64 x1, .int .i64 x2, .int .i64 x3]) ∧ Below w.heap.size w w'

set_option maxHeartbeats 4000000 in
theorem DrawCallFault_any (lo hi : Nat) (A : Option Addr) (k c : Nat) (b : Nat → Int) (w : World) (hk : k ≤ 1048576)
    (hb : ∀ j, 0 ≤ b j ∧ b j ≤ 255) (h : Sl w lo hi A k (fun j => .int .u8 (b j))) :
    Calls Tryz.prog 33 #[.slice A k c] w (CallF w) := by
  have HBY := Lib.hid hb
  have CD : Hid (∀ W, Below w.heap.size w W → Sl W lo (min hi w.heap.size) A k (fun j => .int .u8 (b j))) := fun W hW => h.lt.below hW (by omega)
  obtain ⟨w1, hw1⟩ : ∃ w1, w1 = w.alloc (.cells #[.int .i64 0, .int .i64 0, .int .i64 0, .int .i64 0] 55) := ⟨_, rfl⟩
  have K1 : Hid (w1.heap[w.heap.size]? = some (.cells #[.int .i64 0, .int .i64 0, .int .i64 0, .int .i64 0] 55 (0, 0))) := by show _ = _; rw [hw1]; exact heap_alloc_new w _
  have B1 : Hid (Below w.heap.size w w1) := by rw [hw1]; exact below_new w _
  have Z1 : Hid (w1.heap.size = w.heap.size + 1) := by show _ = _; rw [hw1]; simp
  have HW1 := Lib.hid hw1
  clear h hb hw1
  go_enter Tryz.func33, Tryz.ntmps33
  go_upto_region 1 with (fail)
  rw [← HW1.out]
  clear HW1
  have C1 := Lib.hid (l1Source_any A k c w1)
  go_wp2_with fail
  refine C1.out.mono ?_
  obtain ⟨g, hgz⟩ : ∃ g, g = w1.heap.size := ⟨_, rfl⟩
  rw [← hgz]
  have hwg : w.heap.size < g := by have := Z1.out; omega
  rintro e w2 ⟨rfl, hs1, hb1⟩
  have S2 := Lib.hid hs1
  have z2 := hs1.lt
  have B2 : Hid (Below w.heap.size w w2) := B1.out.trans (hb1.mono (by omega))
  have K2 : Hid (w2.heap[w.heap.size]? = some (.cells #[.int .i64 0, .int .i64 0, .int .i64 0, .int .i64 0] 55 (0, 0))) := (hb1.block _ (by omega)).trans K1.out
  clear hs1 hb1 C1 hgz
  have CC := Lib.hid (l3DrawCall_any lo (min hi w.heap.size) g A k c 0 b 12 w2 hk (by omega) HBY.out (CD.out w2 B2.out) (by omega) S2.out (by omega))
  go_wp2_with fail
  refine CC.out.mono ?_
  rintro e w3 ⟨x0, x1, x2, x3, a, rfl, ha, hs, ho⟩
  have S3 := Lib.hid hs
  have B3 : Hid (Below w.heap.size w w3) := B2.out.trans (ho.1.mono (by omega))
  have K3 : Hid (w3.heap[w.heap.size]? = some (.cells #[.int .i64 0, .int .i64 0, .int .i64 0, .int .i64 0] 55 (0, 0))) := (ho.1.block w.heap.size hwg).trans K2.out
  clear hs ho CC S2 B2 K2
  obtain ⟨s, hsz⟩ : ∃ s, s = w3.heap.size := ⟨_, rfl⟩
  obtain ⟨w4, hw4⟩ : ∃ V, V = w3.alloc (.cells #[.int .i64 x0, .int .i64 x1, .int .i64 x2, .int .i64 x3] 55) := ⟨_, rfl⟩
  have J : Hid (CF3 w w4 g s A k c a x0 x1 x2 x3) := by
    rw [hw4]
    have z := S3.out.lt
    exact ⟨by rw [hsz]; exact heap_alloc_new w3 _, (Below.heap_alloc w3 _ _ (by omega)).trans K3.out, S3.out.alloc _, B3.out.trans ((below_new w3 _).mono (by omega)), hwg, by omega⟩
  have HW4 := Lib.hid hw4
  clear hw4
  go_upto_region 3 with (fail)
  rw [← HW4.out, ← hsz]
  clear HW4 hsz S3 B3 K3
  have CN := Lib.hid (l1Next_any lo (min hi w.heap.size) g A k c a 8 b w4 (by omega) hk (by omega) HBY.out (CD.out w4 J.out.on) (by omega) J.out.sr)
  go_wp2_with fail
  refine CN.out.mono ?_
  rintro e w5 ⟨r, rfl, _, _, hs, ho⟩
  have J := Lib.hid (J.out.step hs ho)
  clear hs ho CN
  by_cases r0 : r = 0
  · subst r0
    have CP := Lib.hid (pick_lit lo (min hi w.heap.size) g A k c (a + 1) 5 2 #[.int .i64 0, .int .i64 6, .int .i64 1, .int .i64 3, .int .i64 5] b [0, 6, 1, 3, 5] w5 hk (by omega) HBY.out (CD.out w5 J.out.on) (by have := J.out.wg; omega) J.out.sr rfl (by omega) (by omega) (fun q hq => by rcases (show q = 0 ∨ q = 1 ∨ q = 2 ∨ q = 3 ∨ q = 4 by omega) with rfl | rfl | rfl | rfl | rfl <;> rfl))
    go_wp2_with fail
    refine CP.out.mono ?_
    rintro e w6 ⟨r9, _, rfl, hs, ho, _⟩
    generalize gi [0, 6, 1, 3, 5] r9 = v
    have J6 := Lib.hid (J.out.step hs ho)
    clear hs ho CP
    have q0 := cell_of_row w6 _ 0 _ _ _ J6.out.kb
    have q1 := cell_of_row w6 _ 1 _ _ _ J6.out.kb
    have q2 := cell_of_row w6 _ 2 _ _ _ J6.out.kb
    have q3 := cell_of_row w6 _ 3 _ _ _ J6.out.kb
    have qf0 := frozen_of_row w6 _ 0 _ _ J6.out.kb
    have qf1 := frozen_of_row w6 _ 1 _ _ J6.out.kb
    have qf2 := frozen_of_row w6 _ 2 _ _ J6.out.kb
    have qf3 := frozen_of_row w6 _ 3 _ _ J6.out.kb
    simp at q0 q1 q2 q3
    obtain ⟨w7, hw7⟩ : ∃ V, V = w6.setCell ⟨s, 0, none⟩ (.int .i64 v) := ⟨_, rfl⟩
    have J7 : Hid (CF3 w w7 g s A k c (a + 1 + 1) v x1 x2 x3) := by rw [hw7]; exact J6.out.set0 v
    have HW7 := Lib.hid hw7
    clear hw7
    go_upto_region 12 with (fail)
    rw [← HW7.out]
    clear HW7 q0 q1 q2 q3 qf0 qf1 qf2 qf3 J6 J
    have q0 := cell_of_row w7 _ 0 _ _ _ J7.out.kb
    have q1 := cell_of_row w7 _ 1 _ _ _ J7.out.kb
    have q2 := cell_of_row w7 _ 2 _ _ _ J7.out.kb
    have q3 := cell_of_row w7 _ 3 _ _ _ J7.out.kb
    simp at q0 q1 q2 q3
    have p0 := cell_of_row w7 _ 0 _ _ _ J7.out.kr
    have p1 := cell_of_row w7 _ 1 _ _ _ J7.out.kr
    have p2 := cell_of_row w7 _ 2 _ _ _ J7.out.kr
    have p3 := cell_of_row w7 _ 3 _ _ _ J7.out.kr
    have pf0 := frozen_of_row w7 _ 0 _ _ J7.out.kr
    have pf1 := frozen_of_row w7 _ 1 _ _ J7.out.kr
    have pf2 := frozen_of_row w7 _ 2 _ _ J7.out.kr
    have pf3 := frozen_of_row w7 _ 3 _ _ J7.out.kr
    simp at p0 p1 p2 p3
    have HK := Lib.hid (heap_setCell_same _ w.heap.size 3 _ _ (.int .i64 x3) (heap_setCell_same _ w.heap.size 2 _ _ (.int .i64 x2) (heap_setCell_same _ w.heap.size 1 _ _ (.int .i64 x1) (heap_setCell_same w7 w.heap.size 0 _ _ (.int .i64 v) J7.out.kr))))
    have BF := Lib.hid ((((J7.out.on.setCell (p := ⟨w.heap.size, 0, none⟩) (Nat.le_refl _) (.int .i64 v)).setCell (p := ⟨w.heap.size, 1, none⟩) (Nat.le_refl _) (.int .i64 x1)).setCell (p := ⟨w.heap.size, 2, none⟩) (Nat.le_refl _) (.int .i64 x2)).setCell (p := ⟨w.heap.size, 3, none⟩) (Nat.le_refl _) (.int .i64 x3))
    clear J7
    go_wp2
    refine bodyPost_ret (results_cell_row rfl _ _ w.heap.size _ _ (0, 0) _ rfl HK.out Tryz.underlying55 rfl (by kernel_rfl)) rfl ?_
    exact ⟨v, x1, x2, x3, rfl, BF.out⟩
  by_cases r1 : r = 1
  · subst r1
    have CP := Lib.hid (pick_lit lo (min hi w.heap.size) g A k c (a + 1) 2 2 #[.int .i64 (-1), .int .i64 4] b [-1, 4] w5 hk (by omega) HBY.out (CD.out w5 J.out.on) (by have := J.out.wg; omega) J.out.sr rfl (by omega) (by omega) (fun q hq => by rcases (show q = 0 ∨ q = 1 by omega) with rfl | rfl <;> rfl))
    go_wp2_with fail
    refine CP.out.mono ?_
    rintro e w6 ⟨r9, _, rfl, hs, ho, _⟩
    generalize gi [-1, 4] r9 = v
    have J6 := Lib.hid (J.out.step hs ho)
    clear hs ho CP
    have q0 := cell_of_row w6 _ 0 _ _ _ J6.out.kb
    have q1 := cell_of_row w6 _ 1 _ _ _ J6.out.kb
    have q2 := cell_of_row w6 _ 2 _ _ _ J6.out.kb
    have q3 := cell_of_row w6 _ 3 _ _ _ J6.out.kb
    have qf0 := frozen_of_row w6 _ 0 _ _ J6.out.kb
    have qf1 := frozen_of_row w6 _ 1 _ _ J6.out.kb
    have qf2 := frozen_of_row w6 _ 2 _ _ J6.out.kb
    have qf3 := frozen_of_row w6 _ 3 _ _ J6.out.kb
    simp at q0 q1 q2 q3
    obtain ⟨w7, hw7⟩ : ∃ V, V = w6.setCell ⟨s, 1, none⟩ (.int .i64 v) := ⟨_, rfl⟩
    have J7 : Hid (CF3 w w7 g s A k c (a + 1 + 1) x0 v x2 x3) := by rw [hw7]; exact J6.out.set1 v
    have HW7 := Lib.hid hw7
    clear hw7
    go_upto_region 12 with (fail)
    rw [← HW7.out]
    clear HW7 q0 q1 q2 q3 qf0 qf1 qf2 qf3 J6 J
    have q0 := cell_of_row w7 _ 0 _ _ _ J7.out.kb
    have q1 := cell_of_row w7 _ 1 _ _ _ J7.out.kb
    have q2 := cell_of_row w7 _ 2 _ _ _ J7.out.kb
    have q3 := cell_of_row w7 _ 3 _ _ _ J7.out.kb
    simp at q0 q1 q2 q3
    have p0 := cell_of_row w7 _ 0 _ _ _ J7.out.kr
    have p1 := cell_of_row w7 _ 1 _ _ _ J7.out.kr
    have p2 := cell_of_row w7 _ 2 _ _ _ J7.out.kr
    have p3 := cell_of_row w7 _ 3 _ _ _ J7.out.kr
    have pf0 := frozen_of_row w7 _ 0 _ _ J7.out.kr
    have pf1 := frozen_of_row w7 _ 1 _ _ J7.out.kr
    have pf2 := frozen_of_row w7 _ 2 _ _ J7.out.kr
    have pf3 := frozen_of_row w7 _ 3 _ _ J7.out.kr
    simp at p0 p1 p2 p3
    have HK := Lib.hid (heap_setCell_same _ w.heap.size 3 _ _ (.int .i64 x3) (heap_setCell_same _ w.heap.size 2 _ _ (.int .i64 x2) (heap_setCell_same _ w.heap.size 1 _ _ (.int .i64 v) (heap_setCell_same w7 w.heap.size 0 _ _ (.int .i64 x0) J7.out.kr))))
    have BF := Lib.hid ((((J7.out.on.setCell (p := ⟨w.heap.size, 0, none⟩) (Nat.le_refl _) (.int .i64 x0)).setCell (p := ⟨w.heap.size, 1, none⟩) (Nat.le_refl _) (.int .i64 v)).setCell (p := ⟨w.heap.size, 2, none⟩) (Nat.le_refl _) (.int .i64 x2)).setCell (p := ⟨w.heap.size, 3, none⟩) (Nat.le_refl _) (.int .i64 x3))
    clear J7
    go_wp2
    refine bodyPost_ret (results_cell_row rfl _ _ w.heap.size _ _ (0, 0) _ rfl HK.out Tryz.underlying55 rfl (by kernel_rfl)) rfl ?_
    exact ⟨x0, v, x2, x3, rfl, BF.out⟩
  by_cases r2 : r = 2
  · subst r2
    have CP := Lib.hid (pick_lit lo (min hi w.heap.size) g A k c (a + 1) 3 2 #[.int .i64 (-1), .int .i64 12, .int .i64 11] b [-1, 12, 11] w5 hk (by omega) HBY.out (CD.out w5 J.out.on) (by have := J.out.wg; omega) J.out.sr rfl (by omega) (by omega) (fun q hq => by rcases (show q = 0 ∨ q = 1 ∨ q = 2 by omega) with rfl | rfl | rfl <;> rfl))
    go_wp2_with fail
    refine CP.out.mono ?_
    rintro e w6 ⟨r9, _, rfl, hs, ho, _⟩
    generalize gi [-1, 12, 11] r9 = v
    have J6 := Lib.hid (J.out.step hs ho)
    clear hs ho CP
    have q0 := cell_of_row w6 _ 0 _ _ _ J6.out.kb
    have q1 := cell_of_row w6 _ 1 _ _ _ J6.out.kb
    have q2 := cell_of_row w6 _ 2 _ _ _ J6.out.kb
    have q3 := cell_of_row w6 _ 3 _ _ _ J6.out.kb
    have qf0 := frozen_of_row w6 _ 0 _ _ J6.out.kb
    have qf1 := frozen_of_row w6 _ 1 _ _ J6.out.kb
    have qf2 := frozen_of_row w6 _ 2 _ _ J6.out.kb
    have qf3 := frozen_of_row w6 _ 3 _ _ J6.out.kb
    simp at q0 q1 q2 q3
    obtain ⟨w7, hw7⟩ : ∃ V, V = w6.setCell ⟨s, 2, none⟩ (.int .i64 v) := ⟨_, rfl⟩
    have J7 : Hid (CF3 w w7 g s A k c (a + 1 + 1) x0 x1 v x3) := by rw [hw7]; exact J6.out.set2 v
    have HW7 := Lib.hid hw7
    clear hw7
    go_upto_region 12 with (fail)
    rw [← HW7.out]
    clear HW7 q0 q1 q2 q3 qf0 qf1 qf2 qf3 J6 J
    have q0 := cell_of_row w7 _ 0 _ _ _ J7.out.kb
    have q1 := cell_of_row w7 _ 1 _ _ _ J7.out.kb
    have q2 := cell_of_row w7 _ 2 _ _ _ J7.out.kb
    have q3 := cell_of_row w7 _ 3 _ _ _ J7.out.kb
    simp at q0 q1 q2 q3
    have p0 := cell_of_row w7 _ 0 _ _ _ J7.out.kr
    have p1 := cell_of_row w7 _ 1 _ _ _ J7.out.kr
    have p2 := cell_of_row w7 _ 2 _ _ _ J7.out.kr
    have p3 := cell_of_row w7 _ 3 _ _ _ J7.out.kr
    have pf0 := frozen_of_row w7 _ 0 _ _ J7.out.kr
    have pf1 := frozen_of_row w7 _ 1 _ _ J7.out.kr
    have pf2 := frozen_of_row w7 _ 2 _ _ J7.out.kr
    have pf3 := frozen_of_row w7 _ 3 _ _ J7.out.kr
    simp at p0 p1 p2 p3
    have HK := Lib.hid (heap_setCell_same _ w.heap.size 3 _ _ (.int .i64 x3) (heap_setCell_same _ w.heap.size 2 _ _ (.int .i64 v) (heap_setCell_same _ w.heap.size 1 _ _ (.int .i64 x1) (heap_setCell_same w7 w.heap.size 0 _ _ (.int .i64 x0) J7.out.kr))))
    have BF := Lib.hid ((((J7.out.on.setCell (p := ⟨w.heap.size, 0, none⟩) (Nat.le_refl _) (.int .i64 x0)).setCell (p := ⟨w.heap.size, 1, none⟩) (Nat.le_refl _) (.int .i64 x1)).setCell (p := ⟨w.heap.size, 2, none⟩) (Nat.le_refl _) (.int .i64 v)).setCell (p := ⟨w.heap.size, 3, none⟩) (Nat.le_refl _) (.int .i64 x3))
    clear J7
    go_wp2
    refine bodyPost_ret (results_cell_row rfl _ _ w.heap.size _ _ (0, 0) _ rfl HK.out Tryz.underlying55 rfl (by kernel_rfl)) rfl ?_
    exact ⟨x0, x1, v, x3, rfl, BF.out⟩
  by_cases r3 : r = 3
  · subst r3
    have CP := Lib.hid (pick_lit lo (min hi w.heap.size) g A k c (a + 1) 3 2 #[.int .i64 (-1), .int .i64 4, .int .i64 1] b [-1, 4, 1] w5 hk (by omega) HBY.out (CD.out w5 J.out.on) (by have := J.out.wg; omega) J.out.sr rfl (by omega) (by omega) (fun q hq => by rcases (show q = 0 ∨ q = 1 ∨ q = 2 by omega) with rfl | rfl | rfl <;> rfl))
    go_wp2_with fail
    refine CP.out.mono ?_
    rintro e w6 ⟨r9, _, rfl, hs, ho, _⟩
    generalize gi [-1, 4, 1] r9 = v
    have J6 := Lib.hid (J.out.step hs ho)
    clear hs ho CP
    have q0 := cell_of_row w6 _ 0 _ _ _ J6.out.kb
    have q1 := cell_of_row w6 _ 1 _ _ _ J6.out.kb
    have q2 := cell_of_row w6 _ 2 _ _ _ J6.out.kb
    have q3 := cell_of_row w6 _ 3 _ _ _ J6.out.kb
    have qf0 := frozen_of_row w6 _ 0 _ _ J6.out.kb
    have qf1 := frozen_of_row w6 _ 1 _ _ J6.out.kb
    have qf2 := frozen_of_row w6 _ 2 _ _ J6.out.kb
    have qf3 := frozen_of_row w6 _ 3 _ _ J6.out.kb
    simp at q0 q1 q2 q3
    obtain ⟨w7, hw7⟩ : ∃ V, V = w6.setCell ⟨s, 3, none⟩ (.int .i64 v) := ⟨_, rfl⟩
    have J7 : Hid (CF3 w w7 g s A k c (a + 1 + 1) x0 x1 x2 v) := by rw [hw7]; exact J6.out.set3 v
    have HW7 := Lib.hid hw7
    clear hw7
    go_upto_region 12 with (fail)
    rw [← HW7.out]
    clear HW7 q0 q1 q2 q3 qf0 qf1 qf2 qf3 J6 J
    have q0 := cell_of_row w7 _ 0 _ _ _ J7.out.kb
    have q1 := cell_of_row w7 _ 1 _ _ _ J7.out.kb
    have q2 := cell_of_row w7 _ 2 _ _ _ J7.out.kb
    have q3 := cell_of_row w7 _ 3 _ _ _ J7.out.kb
    simp at q0 q1 q2 q3
    have p0 := cell_of_row w7 _ 0 _ _ _ J7.out.kr
    have p1 := cell_of_row w7 _ 1 _ _ _ J7.out.kr
    have p2 := cell_of_row w7 _ 2 _ _ _ J7.out.kr
    have p3 := cell_of_row w7 _ 3 _ _ _ J7.out.kr
    have pf0 := frozen_of_row w7 _ 0 _ _ J7.out.kr
    have pf1 := frozen_of_row w7 _ 1 _ _ J7.out.kr
    have pf2 := frozen_of_row w7 _ 2 _ _ J7.out.kr
    have pf3 := frozen_of_row w7 _ 3 _ _ J7.out.kr
    simp at p0 p1 p2 p3
    have HK := Lib.hid (heap_setCell_same _ w.heap.size 3 _ _ (.int .i64 v) (heap_setCell_same _ w.heap.size 2 _ _ (.int .i64 x2) (heap_setCell_same _ w.heap.size 1 _ _ (.int .i64 x1) (heap_setCell_same w7 w.heap.size 0 _ _ (.int .i64 x0) J7.out.kr))))
    have BF := Lib.hid ((((J7.out.on.setCell (p := ⟨w.heap.size, 0, none⟩) (Nat.le_refl _) (.int .i64 x0)).setCell (p := ⟨w.heap.size, 1, none⟩) (Nat.le_refl _) (.int .i64 x1)).setCell (p := ⟨w.heap.size, 2, none⟩) (Nat.le_refl _) (.int .i64 x2)).setCell (p := ⟨w.heap.size, 3, none⟩) (Nat.le_refl _) (.int .i64 v))
    clear J7
    go_wp2
    refine bodyPost_ret (results_cell_row rfl _ _ w.heap.size _ _ (0, 0) _ rfl HK.out Tryz.underlying55 rfl (by kernel_rfl)) rfl ?_
    exact ⟨x0, x1, x2, v, rfl, BF.out⟩
  have n0 : ¬ ((r : Int) = 0) := by omega
  have n1 : ¬ ((r : Int) = 1) := by omega
  have n2 : ¬ ((r : Int) = 2) := by omega
  have n3 : ¬ ((r : Int) = 3) := by omega
  generalize (r : Int) = ri at *
  go_upto_region 12 with (fail)
  have q0 := cell_of_row w5 _ 0 _ _ _ J.out.kb
  have q1 := cell_of_row w5 _ 1 _ _ _ J.out.kb
  have q2 := cell_of_row w5 _ 2 _ _ _ J.out.kb
  have q3 := cell_of_row w5 _ 3 _ _ _ J.out.kb
  simp at q0 q1 q2 q3
  have p0 := cell_of_row w5 _ 0 _ _ _ J.out.kr
  have p1 := cell_of_row w5 _ 1 _ _ _ J.out.kr
  have p2 := cell_of_row w5 _ 2 _ _ _ J.out.kr
  have p3 := cell_of_row w5 _ 3 _ _ _ J.out.kr
  have pf0 := frozen_of_row w5 _ 0 _ _ J.out.kr
  have pf1 := frozen_of_row w5 _ 1 _ _ J.out.kr
  have pf2 := frozen_of_row w5 _ 2 _ _ J.out.kr
  have pf3 := frozen_of_row w5 _ 3 _ _ J.out.kr
  simp at p0 p1 p2 p3
  have HK := Lib.hid (heap_setCell_same _ w.heap.size 3 _ _ (.int .i64 x3) (heap_setCell_same _ w.heap.size 2 _ _ (.int .i64 x2) (heap_setCell_same _ w.heap.size 1 _ _ (.int .i64 x1) (heap_setCell_same w5 w.heap.size 0 _ _ (.int .i64 x0) J.out.kr))))
  have BF := Lib.hid ((((J.out.on.setCell (p := ⟨w.heap.size, 0, none⟩) (Nat.le_refl _) (.int .i64 x0)).setCell (p := ⟨w.heap.size, 1, none⟩) (Nat.le_refl _) (.int .i64 x1)).setCell (p := ⟨w.heap.size, 2, none⟩) (Nat.le_refl _) (.int .i64 x2)).setCell (p := ⟨w.heap.size, 3, none⟩) (Nat.le_refl _) (.int .i64 x3))
  clear J
  go_wp2
  refine bodyPost_ret (results_cell_row rfl _ _ w.heap.size _ _ (0, 0) _ rfl HK.out Tryz.underlying55 rfl (by kernel_rfl)) rfl ?_
  exact ⟨x0, x1, x2, x3, rfl, BF.out⟩
end Go.Proofs.YtckapndpefkcgaaGreat
