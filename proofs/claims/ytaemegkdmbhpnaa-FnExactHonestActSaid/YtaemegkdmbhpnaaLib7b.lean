/-
  toLib: the same library, in lists of its own. No conditions beyond that its lists can be read.
-/
import Derived.Test.YtaemegkdmbhpnaaLib7
namespace Go.Proofs.Ytaemegkdmbhpnaa
open Go.RowKit
set_option maxRecDepth 100000

theorem set5_block {W : World} {s : Nat} {t : TypeId} {u0 u1 u2 u3 u4 : Value} (h : W.heap[s]? = some (.cells #[u0, u1, u2, u3, u4] t (0, 0))) (v0 v1 v2 v3 v4 : Value) :
    (((((W.setCell ⟨s, 0, none⟩ v0).setCell ⟨s, 1, none⟩ v1).setCell ⟨s, 2, none⟩ v2).setCell ⟨s, 3, none⟩ v3).setCell ⟨s, 4, none⟩ v4).heap[s]? = some (.cells #[v0, v1, v2, v3, v4] t (0, 0)) :=
  heap_setCell_same _ _ 4 _ _ _ (heap_setCell_same _ _ 3 _ _ _ (heap_setCell_same _ _ 2 _ _ _ (heap_setCell_same _ _ 1 _ _ _ (heap_setCell_same _ _ 0 _ _ _ h))))

set_option maxHeartbeats 4000000 in
theorem toLib_any (lo hi : Nat) (b : Int) (rc tc lc cc : Nat) (R : Option Addr) (rn : Nat) (rx : Nat → Int) (T : Option Addr) (tn : Nat) (tx : Nat → Int) (L : Option Addr) (ln : Nat) (lo7 : Nat → Int) (lB : Nat → Option Addr) (lm ld : Nat → Nat) (lx : Nat → Nat → Int) (C : Option Addr) (cn : Nat) (cB : Nat → Option Addr) (cm cd : Nat → Nat) (cx : Nat → Nat → Int) (w : World) (hr : rn ≤ 1048576) (ht : tn ≤ 1048576) (hl : ln ≤ 1048576) (hlm : ∀ i, i < ln → lm i ≤ 1048576) (hc : cn ≤ 1048576) (hcm : ∀ i, i < cn → cm i ≤ 1048576) (h : LR w lo hi R rn rx T tn tx L ln lo7 lB lm ld lx C cn cB cm cd cx) :
    Calls Try.prog 17 #[.agg #[.int .i64 b, .slice R rn rc, .slice T tn tc, .slice L ln lc, .slice C cn cc]] w fun e w' => ∃ (u1 u2 u3 u4 : Nat) (lB' cB' : Nat → Option Addr), e = .returned (.agg #[.int .i64 b, .slice (some ⟨u1, 0, none⟩) rn rn, .slice (some ⟨u2, 0, none⟩) tn tn, .slice (some ⟨u3, 0, none⟩) ln ln, .slice (some ⟨u4, 0, none⟩) cn cn]) ∧ LR w' (w.heap.size + 3) w'.heap.size (some ⟨u1, 0, none⟩) rn rx (some ⟨u2, 0, none⟩) tn tx (some ⟨u3, 0, none⟩) ln lo7 lB' lm lm lx (some ⟨u4, 0, none⟩) cn cB' cm cm cx ∧ Below w.heap.size w w' := by
  obtain ⟨g, hg⟩ : ∃ g, g = w.heap.size := ⟨_, rfl⟩
  obtain ⟨w3, hw3⟩ : ∃ w3, w3 = ((w.alloc (.cells #[.int .i64 b, .slice R rn rc, .slice T tn tc, .slice L ln lc, .slice C cn cc] 45)).alloc (.cells #[.int .i64 0, .slice none 0 0, .slice none 0 0, .slice none 0 0, .slice none 0 0] 54)).alloc (.cells #[.int .i64 0, .slice none 0 0, .slice none 0 0, .slice none 0 0, .slice none 0 0] 54) := ⟨_, rfl⟩
  have B3 : Hid (Below w.heap.size w w3) := by rw [hw3]; exact ((below_new w _).alloc (by simp) _).alloc (by simp; omega) _
  have Z3 : Hid (w3.heap.size = g + 3) := by show _ = _; rw [hw3, hg]; simp
  have KP : Hid (w3.heap[g]? = some (.cells #[.int .i64 b, .slice R rn rc, .slice T tn tc, .slice L ln lc, .slice C cn cc] 45 (0, 0))) := by
    show _ = _
    rw [hw3, hg]
    exact (Below.heap_alloc _ _ _ (by simp; omega)).trans (heap_alloc2_old w _ _)
  have KR : Hid (w3.heap[g + 1]? = some (.cells #[.int .i64 0, .slice none 0 0, .slice none 0 0, .slice none 0 0, .slice none 0 0] 54 (0, 0))) := by
    show _ = _
    rw [hw3, hg]
    exact (Below.heap_alloc _ _ _ (by simp)).trans (heap_alloc2_new w _ _)
  have KX : Hid (w3.heap[g + 1 + 1]? = some (.cells #[.int .i64 0, .slice none 0 0, .slice none 0 0, .slice none 0 0, .slice none 0 0] 54 (0, 0))) := by
    show _ = _
    have := heap_alloc_new ((w.alloc (.cells #[.int .i64 b, .slice R rn rc, .slice T tn tc, .slice L ln lc, .slice C cn cc] 45)).alloc (.cells #[.int .i64 0, .slice none 0 0, .slice none 0 0, .slice none 0 0, .slice none 0 0] 54)) (.cells #[.int .i64 0, .slice none 0 0, .slice none 0 0, .slice none 0 0, .slice none 0 0] 54)
    rw [hw3, hg]
    simpa only [World.size_alloc] using this
  have HS : Hid (∀ W, Below w.heap.size w W → LR W lo (min hi w.heap.size) R rn rx T tn tx L ln lo7 lB lm ld lx C cn cB cm cd cx) := fun W hW => h.lt.below hW (Nat.min_le_right _ _)
  have HW3 := Lib.hid hw3
  have HG := Lib.hid hg
  have HR := Lib.hid hr; have HT := Lib.hid ht; have HL := Lib.hid hl; have HLM := Lib.hid hlm; have HC := Lib.hid hc; have HCM := Lib.hid hcm
  have p0 := cell_of_row w3 _ 0 _ _ _ KP.out; have p1 := cell_of_row w3 _ 1 _ _ _ KP.out
  simp at p0 p1
  clear h hw3 hg hr ht hl hlm hc hcm
  go_enter Try.func17, Try.ntmps17
  go_upto_region 2 with (fail)
  rw [← HG.out]
  rw [← HW3.out]
  clear HW3
  go_wp2_with fail
  refine (toSched_any lo (min hi w.heap.size) R rn rc b rx w3 (by have := HR.out; omega) (HS.out w3 B3.out).r).mono ?_
  rintro e c1 ⟨u1, rfl, hu, hrow, hb⟩
  have kp1 := (hb.block g (by have := Z3.out; omega)).trans KP.out
  have kr1 := (hb.block (g + 1) (by have := Z3.out; omega)).trans KR.out
  have kx1 := (hb.block (g + 1 + 1) (by have := Z3.out; omega)).trans KX.out
  obtain ⟨v1, hv1⟩ : ∃ v1, v1 = ((c1.setCell ⟨g + 1 + 1, 0, none⟩ (.int .i64 b)).setCell ⟨g + 1 + 1, 1, none⟩ (.slice (some ⟨u1, 0, none⟩) rn rn)) := ⟨_, rfl⟩
  have FA1 : Hid (Far (g + 1 + 1) c1 v1) := by rw [hv1]; exact (Far.set _ _ _ _).trans (Far.set _ _ _ _)
  have KX1 : Hid (v1.heap[g + 1 + 1]? = some (.cells #[.int .i64 b, .slice (some ⟨u1, 0, none⟩) rn rn, .slice none 0 0, .slice none 0 0, .slice none 0 0] 54 (0, 0))) := by show _ = _; rw [hv1]; exact heap_setCell_same _ _ 1 _ _ _ (heap_setCell_same _ _ 0 _ _ _ kx1)
  have KP1 : Hid (v1.heap[g]? = some (.cells #[.int .i64 b, .slice R rn rc, .slice T tn tc, .slice L ln lc, .slice C cn cc] 45 (0, 0))) := (FA1.out.2 g (by have := hb.size; have := Z3.out; omega) (by omega)).trans kp1
  have KR1 : Hid (v1.heap[g + 1]? = some (.cells #[.int .i64 0, .slice none 0 0, .slice none 0 0, .slice none 0 0, .slice none 0 0] 54 (0, 0))) := (FA1.out.2 (g + 1) (by have := hb.size; have := Z3.out; omega) (by omega)).trans kr1
  have ZS1 : Hid (w3.heap.size ≤ c1.heap.size ∧ c1.heap.size ≤ v1.heap.size ∧ w3.heap.size ≤ v1.heap.size) := ⟨hb.size, FA1.out.1, by have := hb.size; have := FA1.out.1; omega⟩
  have BW1 : Hid (Below w.heap.size w v1) := by rw [hv1, HG.out]; exact (((B3.out.trans (hb.mono B3.out.size)).setCell (p := ⟨w.heap.size + 1 + 1, 0, none⟩) (by first | (simp; done) | (simp; omega) | (show _ ≤ _; dsimp only; omega)) _).setCell (p := ⟨w.heap.size + 1 + 1, 1, none⟩) (by first | (simp; done) | (simp; omega) | (show _ ≤ _; dsimp only; omega)) _)
  have FB1 := Lib.hid ((Far.below (X := g + 1 + 1) hb).trans FA1.out)
  have HN1 := Lib.hid hv1
  have S1 : Hid (Sl v1 (g + 3) v1.heap.size (some ⟨u1, 0, none⟩) (rn * 3) (fun k => .int .i64 (rx k))) := ((Mine.sl (t := 166) (.inr ⟨u1, 0, rfl, Nat.le_refl _, Nat.lt_succ_self _, hrow⟩)).farX FA1.out (by have := Z3.out; omega) (by omega)).wide (by have := Z3.out; omega) (by have := FA1.out.1; omega)
  have x10 := cell_of_row c1 _ 0 _ _ _ kx1; have fx10 := frozen_of_row c1 _ 0 _ _ kx1
  have x11 := cell_of_row c1 _ 1 _ _ _ kx1; have fx11 := frozen_of_row c1 _ 1 _ _ kx1
  simp at x10 x11
  clear hrow hb kp1 kr1 kx1 hu hv1 p0 p1
  go_upto_region 3 with (fail)
  rw [← HN1.out]
  clear HN1 x10 x11 fx10 fx11
  have p0 := cell_of_row v1 _ 2 _ _ _ KP1.out
  simp at p0
  go_wp2_with fail
  refine (toThreadS_any lo (min hi w.heap.size) T tn tc tx v1 (by have := HT.out; omega) (HS.out v1 BW1.out).t (by have := BW1.out.size; omega)).mono ?_
  rintro e c2 ⟨rfl, hrow, hb⟩
  obtain ⟨u2, hu2⟩ : ∃ u2, u2 = v1.heap.size := ⟨_, rfl⟩
  rw [← hu2] at hrow ⊢
  have kp2 := (hb.block g (by have := Z3.out; have := ZS1.out; omega)).trans KP1.out
  have kr2 := (hb.block (g + 1) (by have := Z3.out; have := ZS1.out; omega)).trans KR1.out
  have kx2 := (hb.block (g + 1 + 1) (by have := Z3.out; have := ZS1.out; omega)).trans KX1.out
  obtain ⟨v2, hv2⟩ : ∃ v2, v2 = (c2.setCell ⟨g + 1 + 1, 2, none⟩ (.slice (some ⟨u2, 0, none⟩) tn tn)) := ⟨_, rfl⟩
  have FA2 : Hid (Far (g + 1 + 1) c2 v2) := by rw [hv2]; exact Far.set _ _ _ _
  have KX2 : Hid (v2.heap[g + 1 + 1]? = some (.cells #[.int .i64 b, .slice (some ⟨u1, 0, none⟩) rn rn, .slice (some ⟨u2, 0, none⟩) tn tn, .slice none 0 0, .slice none 0 0] 54 (0, 0))) := by show _ = _; rw [hv2]; exact heap_setCell_same _ _ 2 _ _ _ kx2
  have KP2 : Hid (v2.heap[g]? = some (.cells #[.int .i64 b, .slice R rn rc, .slice T tn tc, .slice L ln lc, .slice C cn cc] 45 (0, 0))) := (FA2.out.2 g (by have := hb.size; have := Z3.out; have := ZS1.out; omega) (by omega)).trans kp2
  have KR2 : Hid (v2.heap[g + 1]? = some (.cells #[.int .i64 0, .slice none 0 0, .slice none 0 0, .slice none 0 0, .slice none 0 0] 54 (0, 0))) := (FA2.out.2 (g + 1) (by have := hb.size; have := Z3.out; have := ZS1.out; omega) (by omega)).trans kr2
  have ZS2 : Hid (v1.heap.size ≤ c2.heap.size ∧ c2.heap.size ≤ v2.heap.size ∧ w3.heap.size ≤ v2.heap.size) := ⟨hb.size, FA2.out.1, by have := hb.size; have := FA2.out.1; have := ZS1.out; omega⟩
  have BW2 : Hid (Below w.heap.size w v2) := by rw [hv2, HG.out]; exact ((BW1.out.trans (hb.mono BW1.out.size)).setCell (p := ⟨w.heap.size + 1 + 1, 2, none⟩) (by first | (simp; done) | (simp; omega) | (show _ ≤ _; dsimp only; omega)) _)
  have FB2 := Lib.hid ((Far.below (X := g + 1 + 1) hb).trans FA2.out)
  have HN2 := Lib.hid hv2
  have S2 : Hid (Sl v2 (g + 3) v2.heap.size (some ⟨u2, 0, none⟩) (tn * 5) (fun k => .int .i64 (tx k))) := ((Mine.sl (t := 200) (.inr ⟨u2, 0, rfl, Nat.le_refl _, Nat.lt_succ_self _, hrow⟩)).farX FA2.out (by have := Z3.out; have := ZS1.out; omega) (by have := hrow.lt; omega)).wide (by have := Z3.out; have := ZS1.out; omega) (by have := hrow.lt; have := FA2.out.1; omega)
  have S1 := Lib.hid ((S1.out.farX FB2.out (by omega) (Nat.le_refl _)).wide (Nat.le_refl _) FB2.out.1)
  have x20 := cell_of_row c2 _ 2 _ _ _ kx2; have fx20 := frozen_of_row c2 _ 2 _ _ kx2
  simp at x20
  clear hrow hb kp2 kr2 kx2 hu2 hv2 p0
  go_upto_region 4 with (fail)
  rw [← HN2.out]
  clear HN2 x20 fx20
  have p0 := cell_of_row v2 _ 3 _ _ _ KP2.out
  simp at p0
  go_wp2_with fail
  refine (toLockS_any lo (min hi w.heap.size) L ln lc lo7 lB lm ld lx v2 HL.out HLM.out (HS.out v2 BW2.out).l).mono ?_
  rintro e c3 ⟨lB', rfl, hrow, hb⟩
  obtain ⟨u3, hu3⟩ : ∃ u3, u3 = v2.heap.size := ⟨_, rfl⟩
  rw [← hu3] at hrow ⊢
  have kp3 := (hb.block g (by have := Z3.out; have := ZS2.out; omega)).trans KP2.out
  have kr3 := (hb.block (g + 1) (by have := Z3.out; have := ZS2.out; omega)).trans KR2.out
  have kx3 := (hb.block (g + 1 + 1) (by have := Z3.out; have := ZS2.out; omega)).trans KX2.out
  obtain ⟨v3, hv3⟩ : ∃ v3, v3 = (c3.setCell ⟨g + 1 + 1, 3, none⟩ (.slice (some ⟨u3, 0, none⟩) ln ln)) := ⟨_, rfl⟩
  have FA3 : Hid (Far (g + 1 + 1) c3 v3) := by rw [hv3]; exact Far.set _ _ _ _
  have KX3 : Hid (v3.heap[g + 1 + 1]? = some (.cells #[.int .i64 b, .slice (some ⟨u1, 0, none⟩) rn rn, .slice (some ⟨u2, 0, none⟩) tn tn, .slice (some ⟨u3, 0, none⟩) ln ln, .slice none 0 0] 54 (0, 0))) := by show _ = _; rw [hv3]; exact heap_setCell_same _ _ 3 _ _ _ kx3
  have KP3 : Hid (v3.heap[g]? = some (.cells #[.int .i64 b, .slice R rn rc, .slice T tn tc, .slice L ln lc, .slice C cn cc] 45 (0, 0))) := (FA3.out.2 g (by have := hb.size; have := Z3.out; have := ZS2.out; omega) (by omega)).trans kp3
  have KR3 : Hid (v3.heap[g + 1]? = some (.cells #[.int .i64 0, .slice none 0 0, .slice none 0 0, .slice none 0 0, .slice none 0 0] 54 (0, 0))) := (FA3.out.2 (g + 1) (by have := hb.size; have := Z3.out; have := ZS2.out; omega) (by omega)).trans kr3
  have ZS3 : Hid (v2.heap.size ≤ c3.heap.size ∧ c3.heap.size ≤ v3.heap.size ∧ w3.heap.size ≤ v3.heap.size) := ⟨hb.size, FA3.out.1, by have := hb.size; have := FA3.out.1; have := ZS2.out; omega⟩
  have BW3 : Hid (Below w.heap.size w v3) := by rw [hv3, HG.out]; exact ((BW2.out.trans (hb.mono BW2.out.size)).setCell (p := ⟨w.heap.size + 1 + 1, 3, none⟩) (by first | (simp; done) | (simp; omega) | (show _ ≤ _; dsimp only; omega)) _)
  have FB3 := Lib.hid ((Far.below (X := g + 1 + 1) hb).trans FA3.out)
  have HN3 := Lib.hid hv3
  have S3 : Hid (LL v3 (g + 3) v3.heap.size (some ⟨u3, 0, none⟩) ln lo7 lB' lm lm lx) := (hrow.farX FA3.out (by have := Z3.out; have := ZS2.out; omega) (Nat.le_refl _)).wide (by have := Z3.out; have := ZS2.out; omega) FA3.out.1
  have S1 := Lib.hid ((S1.out.farX FB3.out (by omega) (Nat.le_refl _)).wide (Nat.le_refl _) FB3.out.1)
  have S2 := Lib.hid ((S2.out.farX FB3.out (by omega) (Nat.le_refl _)).wide (Nat.le_refl _) FB3.out.1)
  have x30 := cell_of_row c3 _ 3 _ _ _ kx3; have fx30 := frozen_of_row c3 _ 3 _ _ kx3
  simp at x30
  clear hrow hb kp3 kr3 kx3 hu3 hv3 p0
  go_upto_region 5 with (fail)
  rw [← HN3.out]
  clear HN3 x30 fx30
  have p0 := cell_of_row v3 _ 4 _ _ _ KP3.out
  simp at p0
  go_wp2_with fail
  refine (toInt64SS_any lo (min hi w.heap.size) C cn cc cB cm cd cx v3 HC.out HCM.out (HS.out v3 BW3.out).c).mono ?_
  rintro e c4 ⟨cB', rfl, hrow, hb⟩
  obtain ⟨u4, hu4⟩ : ∃ u4, u4 = v3.heap.size := ⟨_, rfl⟩
  rw [← hu4] at hrow ⊢
  have kp4 := (hb.block g (by have := Z3.out; have := ZS3.out; omega)).trans KP3.out
  have kr4 := (hb.block (g + 1) (by have := Z3.out; have := ZS3.out; omega)).trans KR3.out
  have kx4 := (hb.block (g + 1 + 1) (by have := Z3.out; have := ZS3.out; omega)).trans KX3.out
  obtain ⟨v4, hv4⟩ : ∃ v4, v4 = (c4.setCell ⟨g + 1 + 1, 4, none⟩ (.slice (some ⟨u4, 0, none⟩) cn cn)) := ⟨_, rfl⟩
  have FA4 : Hid (Far (g + 1 + 1) c4 v4) := by rw [hv4]; exact Far.set _ _ _ _
  have KX4 : Hid (v4.heap[g + 1 + 1]? = some (.cells #[.int .i64 b, .slice (some ⟨u1, 0, none⟩) rn rn, .slice (some ⟨u2, 0, none⟩) tn tn, .slice (some ⟨u3, 0, none⟩) ln ln, .slice (some ⟨u4, 0, none⟩) cn cn] 54 (0, 0))) := by show _ = _; rw [hv4]; exact heap_setCell_same _ _ 4 _ _ _ kx4
  have KP4 : Hid (v4.heap[g]? = some (.cells #[.int .i64 b, .slice R rn rc, .slice T tn tc, .slice L ln lc, .slice C cn cc] 45 (0, 0))) := (FA4.out.2 g (by have := hb.size; have := Z3.out; have := ZS3.out; omega) (by omega)).trans kp4
  have KR4 : Hid (v4.heap[g + 1]? = some (.cells #[.int .i64 0, .slice none 0 0, .slice none 0 0, .slice none 0 0, .slice none 0 0] 54 (0, 0))) := (FA4.out.2 (g + 1) (by have := hb.size; have := Z3.out; have := ZS3.out; omega) (by omega)).trans kr4
  have ZS4 : Hid (v3.heap.size ≤ c4.heap.size ∧ c4.heap.size ≤ v4.heap.size ∧ w3.heap.size ≤ v4.heap.size) := ⟨hb.size, FA4.out.1, by have := hb.size; have := FA4.out.1; have := ZS3.out; omega⟩
  have BW4 : Hid (Below w.heap.size w v4) := by rw [hv4, HG.out]; exact ((BW3.out.trans (hb.mono BW3.out.size)).setCell (p := ⟨w.heap.size + 1 + 1, 4, none⟩) (by first | (simp; done) | (simp; omega) | (show _ ≤ _; dsimp only; omega)) _)
  have FB4 := Lib.hid ((Far.below (X := g + 1 + 1) hb).trans FA4.out)
  have HN4 := Lib.hid hv4
  have S4 : Hid (CL v4 (g + 3) v4.heap.size (some ⟨u4, 0, none⟩) cn cB' cm cm cx) := (hrow.farX FA4.out (by have := Z3.out; have := ZS3.out; omega) (Nat.le_refl _)).wide (by have := Z3.out; have := ZS3.out; omega) FA4.out.1
  have S1 := Lib.hid ((S1.out.farX FB4.out (by omega) (Nat.le_refl _)).wide (Nat.le_refl _) FB4.out.1)
  have S2 := Lib.hid ((S2.out.farX FB4.out (by omega) (Nat.le_refl _)).wide (Nat.le_refl _) FB4.out.1)
  have S3 := Lib.hid ((S3.out.farX FB4.out (by omega) (Nat.le_refl _)).wide (Nat.le_refl _) FB4.out.1)
  have x40 := cell_of_row c4 _ 4 _ _ _ kx4; have fx40 := frozen_of_row c4 _ 4 _ _ kx4
  simp at x40
  clear hrow hb kp4 kr4 kx4 hu4 hv4 p0
  go_upto_region 6 with (fail)
  rw [← HN4.out]
  clear HN4 x40 fx40
  have q0 := cell_of_row v4 _ 0 _ _ _ KX4.out; have q1 := cell_of_row v4 _ 1 _ _ _ KX4.out; have q2 := cell_of_row v4 _ 2 _ _ _ KX4.out; have q3 := cell_of_row v4 _ 3 _ _ _ KX4.out; have q4 := cell_of_row v4 _ 4 _ _ _ KX4.out
  have r0 := cell_of_row v4 _ 0 _ _ _ KR4.out; have r1 := cell_of_row v4 _ 1 _ _ _ KR4.out; have r2 := cell_of_row v4 _ 2 _ _ _ KR4.out; have r3 := cell_of_row v4 _ 3 _ _ _ KR4.out; have r4 := cell_of_row v4 _ 4 _ _ _ KR4.out
  have f0 := frozen_of_row v4 _ 0 _ _ KR4.out; have f1 := frozen_of_row v4 _ 1 _ _ KR4.out; have f2 := frozen_of_row v4 _ 2 _ _ KR4.out; have f3 := frozen_of_row v4 _ 3 _ _ KR4.out; have f4 := frozen_of_row v4 _ 4 _ _ KR4.out
  simp at q0 q1 q2 q3 q4 r0 r1 r2 r3 r4
  go_wp2
  refine bodyPost_ret (results_cell_row rfl _ _ (g + 1) _ _ (0, 0) _ rfl (set5_block KR4.out _ _ _ _ _) Try.underlying54 rfl (by kernel_rfl)) rfl ?_
  have FZ : Far (g + 1) v4 (((((v4.setCell ⟨g + 1, 0, none⟩ (.int .i64 b)).setCell ⟨g + 1, 1, none⟩ (.slice (some ⟨u1, 0, none⟩) rn rn)).setCell ⟨g + 1, 2, none⟩ (.slice (some ⟨u2, 0, none⟩) tn tn)).setCell ⟨g + 1, 3, none⟩ (.slice (some ⟨u3, 0, none⟩) ln ln)).setCell ⟨g + 1, 4, none⟩ (.slice (some ⟨u4, 0, none⟩) cn cn)) := ((((Far.set _ _ _ _).trans (Far.set _ _ _ _)).trans (Far.set _ _ _ _)).trans (Far.set _ _ _ _)).trans (Far.set _ _ _ _)
  have hg := HG.out
  refine ⟨u1, u2, u3, u4, lB', cB', rfl, ?_, ?_⟩
  · rw [← hg]
    exact ⟨(S1.out.farX FZ (by omega) (Nat.le_refl _)).wide (Nat.le_refl _) FZ.1, (S2.out.farX FZ (by omega) (Nat.le_refl _)).wide (Nat.le_refl _) FZ.1, (S3.out.farX FZ (by omega) (Nat.le_refl _)).wide (Nat.le_refl _) FZ.1, (S4.out.farX FZ (by omega) (Nat.le_refl _)).wide (Nat.le_refl _) FZ.1⟩
  · exact ((((BW4.out.setCell (p := ⟨g + 1, 0, none⟩) (by first | (simp; done) | (simp; omega) | (show _ ≤ _; dsimp only; omega)) _).setCell (p := ⟨g + 1, 1, none⟩) (by first | (simp; done) | (simp; omega) | (show _ ≤ _; dsimp only; omega)) _).setCell (p := ⟨g + 1, 2, none⟩) (by first | (simp; done) | (simp; omega) | (show _ ≤ _; dsimp only; omega)) _).setCell (p := ⟨g + 1, 3, none⟩) (by first | (simp; done) | (simp; omega) | (show _ ≤ _; dsimp only; omega)) _).setCell (p := ⟨g + 1, 4, none⟩) (by first | (simp; done) | (simp; omega) | (show _ ≤ _; dsimp only; omega)) _

end Go.Proofs.Ytaemegkdmbhpnaa
