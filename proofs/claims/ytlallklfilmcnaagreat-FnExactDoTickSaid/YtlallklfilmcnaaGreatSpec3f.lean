/-
  The model's DoCall, for every kernel that can be read and every call.
-/
import Derived.Test.YtlallklfilmcnaaGreatSpec3e
namespace Go.Proofs.YtlallklfilmcnaaGreat
open Go.RowKit
set_option maxRecDepth 100000

/-- DoCall's answer -/
noncomputable def docall (K : Ker) (k e s t : Int) : Int × Ker := if kf K ≠ 0 then (kf K, zeroKer) else if cf k e s t ≠ 0 then (cf k e s t, zeroKer) else orZero (call3 K k e s t)

set_option maxHeartbeats 2000000 in
theorem specDoCall_any (lo hi : Nat) (A1 : Option Addr) (n1 c1 : Nat) (A2 : Option Addr) (n2 c2 : Nat) (A3 : Option Addr) (n3 c3 : Nat) (t r : Int) (K : Ker) (kk e s to : Int) (w : World) (hn1 : n1 * 8 ≤ 140737488351232) (hn3 : n3 * 32 ≤ 140737488351232)
    (h : KRead w lo hi A1 n1 A2 n2 A3 n3 K) (hA : A1 = none → c1 = 0) (et : K.tick = t) (er : K.run = r) :
    Calls Tryz.prog 11 #[.agg #[.slice A1 n1 c1, .slice A2 n2 c2, .slice A3 n3 c3, .int .i64 t, .int .i64 r], .agg #[.int .i64 kk, .int .i64 e, .int .i64 s, .int .i64 to]] w (KAns (docall K kk e s to).1 (docall K kk e s to).2 [] w) := by
  have B3 : Hid (Below w.heap.size w (((w.alloc (.cells #[.slice A1 n1 c1, .slice A2 n2 c2, .slice A3 n3 c3, .int .i64 t, .int .i64 r] 28)).alloc (.cells #[.int .i64 kk, .int .i64 e, .int .i64 s, .int .i64 to] 30)).alloc (.cells #[.int .i64 0, .slice none 0 0, .slice none 0 0, .slice none 0 0, .int .i64 0, .int .i64 0, .slice none 0 0] 35))) := (((Below.refl _ _).alloc (Nat.le_refl _) _).alloc (by simp) _).alloc (by simp; omega) _
  have Z1 : Hid ((((w.alloc (.cells #[.slice A1 n1 c1, .slice A2 n2 c2, .slice A3 n3 c3, .int .i64 t, .int .i64 r] 28)).alloc (.cells #[.int .i64 kk, .int .i64 e, .int .i64 s, .int .i64 to] 30)).alloc (.cells #[.int .i64 0, .slice none 0 0, .slice none 0 0, .slice none 0 0, .int .i64 0, .int .i64 0, .slice none 0 0] 35)).heap[w.heap.size]? = some (.cells #[.slice A1 n1 c1, .slice A2 n2 c2, .slice A3 n3 c3, .int .i64 t, .int .i64 r] 28 (0, 0))) := (Below.heap_alloc _ _ _ (by simp; omega)).trans (heap_alloc2_old w _ _)
  have Z2 : Hid ((((w.alloc (.cells #[.slice A1 n1 c1, .slice A2 n2 c2, .slice A3 n3 c3, .int .i64 t, .int .i64 r] 28)).alloc (.cells #[.int .i64 kk, .int .i64 e, .int .i64 s, .int .i64 to] 30)).alloc (.cells #[.int .i64 0, .slice none 0 0, .slice none 0 0, .slice none 0 0, .int .i64 0, .int .i64 0, .slice none 0 0] 35)).heap[w.heap.size + 1]? = some (.cells #[.int .i64 kk, .int .i64 e, .int .i64 s, .int .i64 to] 30 (0, 0))) := (Below.heap_alloc _ _ _ (by simp)).trans (heap_alloc2_new w _ _)
  have Z3 : Hid ((((w.alloc (.cells #[.slice A1 n1 c1, .slice A2 n2 c2, .slice A3 n3 c3, .int .i64 t, .int .i64 r] 28)).alloc (.cells #[.int .i64 kk, .int .i64 e, .int .i64 s, .int .i64 to] 30)).alloc (.cells #[.int .i64 0, .slice none 0 0, .slice none 0 0, .slice none 0 0, .int .i64 0, .int .i64 0, .slice none 0 0] 35)).heap[w.heap.size + 2]? = some (.cells #[.int .i64 0, .slice none 0 0, .slice none 0 0, .slice none 0 0, .int .i64 0, .int .i64 0, .slice none 0 0] 35 (0, 0))) := by
    have := heap_alloc_new ((w.alloc (.cells #[.slice A1 n1 c1, .slice A2 n2 c2, .slice A3 n3 c3, .int .i64 t, .int .i64 r] 28)).alloc (.cells #[.int .i64 kk, .int .i64 e, .int .i64 s, .int .i64 to] 30)) (.cells #[.int .i64 0, .slice none 0 0, .slice none 0 0, .slice none 0 0, .int .i64 0, .int .i64 0, .slice none 0 0] 35)
    simp only [World.size_alloc] at this
    exact this
  have s3 : (((w.alloc (.cells #[.slice A1 n1 c1, .slice A2 n2 c2, .slice A3 n3 c3, .int .i64 t, .int .i64 r] 28)).alloc (.cells #[.int .i64 kk, .int .i64 e, .int .i64 s, .int .i64 to] 30)).alloc (.cells #[.int .i64 0, .slice none 0 0, .slice none 0 0, .slice none 0 0, .int .i64 0, .int .i64 0, .slice none 0 0] 35)).heap.size = w.heap.size + 3 := by simp
  have R := Lib.hid (h.lt.below B3.out (Nat.min_le_right _ _))
  obtain ⟨l1, l2, l3⟩ := h.1
  have KF := Lib.hid (specKernelFault_any lo (min hi w.heap.size) A1 n1 c1 A2 n2 c2 A3 n3 c3 t r K (((w.alloc (.cells #[.slice A1 n1 c1, .slice A2 n2 c2, .slice A3 n3 c3, .int .i64 t, .int .i64 r] 28)).alloc (.cells #[.int .i64 kk, .int .i64 e, .int .i64 s, .int .i64 to] 30)).alloc (.cells #[.int .i64 0, .slice none 0 0, .slice none 0 0, .slice none 0 0, .int .i64 0, .int .i64 0, .slice none 0 0] 35)) hn1 hn3 R.out et er)
  have ET := Lib.hid et; have ER := Lib.hid er; have HA := Lib.hid hA; have L1 := Lib.hid l1
  clear h hA et er
  go_enter Tryz.func11, Tryz.ntmps11
  go_wp2_with fail
  refine KF.out.mono ?_
  rintro e9 w4 ⟨rfl, hb⟩
  have X1 := (hb.block w.heap.size (by omega)).trans Z1.out
  have X2 := (hb.block (w.heap.size + 1) (by omega)).trans Z2.out
  have X3 := (hb.block (w.heap.size + 2) (by omega)).trans Z3.out
  have s4 : w.heap.size + 3 ≤ w4.heap.size := by have := hb.size; omega
  have B4 := Lib.hid (B3.out.trans (hb.mono (by omega)))
  have R4 := Lib.hid (R.out.below hb (by omega))
  clear hb KF B3 R Z1 Z2 Z3
  by_cases hv : kf K = 0
  case neg =>
    have hva : (kf K != 0) = true := by simp [hv]
    have HD : Hid (docall K kk e s to = (kf K, zeroKer)) := by show _ = _; unfold docall; rw [if_pos hv]
    have HZ := Lib.hid X3
    have r0 := cell_of_row w4 _ 0 _ _ _ X3
    have f0 := frozen_of_row w4 _ 0 _ _ X3
    have r1 := cell_of_row w4 _ 1 _ _ _ X3
    have f1 := frozen_of_row w4 _ 1 _ _ X3
    have r2 := cell_of_row w4 _ 2 _ _ _ X3
    have f2 := frozen_of_row w4 _ 2 _ _ X3
    have r3 := cell_of_row w4 _ 3 _ _ _ X3
    have f3 := frozen_of_row w4 _ 3 _ _ X3
    have r4 := cell_of_row w4 _ 4 _ _ _ X3
    have f4 := frozen_of_row w4 _ 4 _ _ X3
    have r5 := cell_of_row w4 _ 5 _ _ _ X3
    have f5 := frozen_of_row w4 _ 5 _ _ X3
    have r6 := cell_of_row w4 _ 6 _ _ _ X3
    have f6 := frozen_of_row w4 _ 6 _ _ X3
    simp at r0 r1 r2 r3 r4 r5 r6
    clear X1 X2 X3 hv s3
    go_wp2
    refine bodyPost_ret (results_cell_row rfl _ _ (w.heap.size + 2) _ _ (0, 0) _ rfl (blk7_set HZ.out _ _ _ _ _ _ _) Tryz.underlying35 rfl (by kernel_rfl)) rfl ?_
    rw [HD.out]
    exact kans_code (below7 B4.out (by omega) _ _ _ _ _ _ _) (by simp; omega)
  have hva : (kf K != 0) = false := by simp [hv]
  have b0 := cell_of_row w4 _ 0 _ _ _ X2; have b1 := cell_of_row w4 _ 1 _ _ _ X2; have b2 := cell_of_row w4 _ 2 _ _ _ X2; have b3 := cell_of_row w4 _ 3 _ _ _ X2
  simp at b0 b1 b2 b3
  have HV := Lib.hid hv
  have H1 := Lib.hid X1; have H2 := Lib.hid X2; have H3 := Lib.hid X3
  clear X1 X2 X3 hv s3
  go_wp2_with fail
  refine (specCallFault_any kk e s to _).mono ?_
  rintro e9 w5 ⟨rfl, hb⟩
  have X1 := (hb.block w.heap.size (by omega)).trans H1.out
  have X2 := (hb.block (w.heap.size + 1) (by omega)).trans H2.out
  have X3 := (hb.block (w.heap.size + 2) (by omega)).trans H3.out
  have s5 : w.heap.size + 3 ≤ w5.heap.size := by have := hb.size; omega
  have B5 := Lib.hid (B4.out.trans (hb.mono (by omega)))
  have R5 := Lib.hid (R4.out.below hb (by omega))
  clear hb B4 R4 H1 H2 H3 b0 b1 b2 b3
  by_cases hc : cf kk e s to = 0
  case neg =>
    have hca : (cf kk e s to != 0) = true := by simp [hc]
    have HD : Hid (docall K kk e s to = (cf kk e s to, zeroKer)) := by show _ = _; unfold docall; rw [if_neg (by simp [HV.out]), if_pos hc]
    have HZ := Lib.hid X3
    have r0 := cell_of_row w5 _ 0 _ _ _ X3
    have f0 := frozen_of_row w5 _ 0 _ _ X3
    have r1 := cell_of_row w5 _ 1 _ _ _ X3
    have f1 := frozen_of_row w5 _ 1 _ _ X3
    have r2 := cell_of_row w5 _ 2 _ _ _ X3
    have f2 := frozen_of_row w5 _ 2 _ _ X3
    have r3 := cell_of_row w5 _ 3 _ _ _ X3
    have f3 := frozen_of_row w5 _ 3 _ _ X3
    have r4 := cell_of_row w5 _ 4 _ _ _ X3
    have f4 := frozen_of_row w5 _ 4 _ _ X3
    have r5 := cell_of_row w5 _ 5 _ _ _ X3
    have f5 := frozen_of_row w5 _ 5 _ _ X3
    have r6 := cell_of_row w5 _ 6 _ _ _ X3
    have f6 := frozen_of_row w5 _ 6 _ _ X3
    simp at r0 r1 r2 r3 r4 r5 r6
    clear X1 X2 X3 hc
    go_wp2
    refine bodyPost_ret (results_cell_row rfl _ _ (w.heap.size + 2) _ _ (0, 0) _ rfl (blk7_set HZ.out _ _ _ _ _ _ _) Tryz.underlying35 rfl (by kernel_rfl)) rfl ?_
    rw [HD.out]
    exact kans_code (below7 B5.out (by omega) _ _ _ _ _ _ _) (by simp; omega)
  have hca : (cf kk e s to != 0) = false := by simp [hc]
  have HC := Lib.hid hc
  obtain ⟨v1, v2, v3⟩ := kf_zero HV.out
  obtain ⟨w1', w2', _, _⟩ := vf_zero v1
  obtain rfl : n2 = 4 := by omega
  obtain rfl : n3 = 4 := by omega
  have H2 := Lib.hid X2; have H3 := Lib.hid X3
  have V1 := Lib.hid v1
  have CP := Lib.hid (l3Copy_any w.heap.size lo (min hi w.heap.size) A1 n1 c1 A2 c2 A3 c3 t r K w5 X1 R5.out HA.out (by omega) (by omega))
  clear X1 X2 X3 hc v1
  go_wp2_with fail
  refine CP.out.mono ?_
  rintro e9 w6 ⟨p, rfl, ho, hg, hb⟩
  obtain ⟨u1, u2, u3, u4, u5, u6⟩ := hg
  have s6 : w5.heap.size ≤ w6.heap.size := hb.size
  obtain ⟨w7, hw7⟩ : ∃ w7, w7 = w6.alloc (.cells #[.slice p.A1 p.n1 p.c1, .slice p.A2 4 p.c2, .slice p.A3 4 p.c3, .int .i64 t, .int .i64 r] 28) := ⟨_, rfl⟩
  have s7 : w7.heap.size = w6.heap.size + 1 := by rw [hw7]; simp
  have KB7 : KB w7 w6.heap.size p K := by
    rw [hw7]
    refine ⟨?_, ⟨ho.l1, ho.l2, ho.l3, ho.nil1, ho.m1.below (below_new w6 _) (by omega), ho.m2.below (below_new w6 _) (by omega), ho.m3.below (below_new w6 _) (by omega), ho.d12, ho.d13, ho.d23⟩, by omega, by omega, by omega⟩
    rw [ET.out, ER.out]
    exact heap_alloc_new w6 _
  have X2 := (Below.heap_alloc w6 (.cells #[.slice p.A1 p.n1 p.c1, .slice p.A2 4 p.c2, .slice p.A3 4 p.c3, .int .i64 t, .int .i64 r] 28) (w.heap.size + 1) (by omega)).trans ((hb.block (w.heap.size + 1) (by omega)).trans H2.out)
  have X3 := (Below.heap_alloc w6 (.cells #[.slice p.A1 p.n1 p.c1, .slice p.A2 4 p.c2, .slice p.A3 4 p.c3, .int .i64 t, .int .i64 r] 28) (w.heap.size + 2) (by omega)).trans ((hb.block (w.heap.size + 2) (by omega)).trans H3.out)
  rw [← hw7] at X2 X3
  have B7 : Hid (Below w.heap.size w w7) := by rw [hw7]; exact (B5.out.trans (hb.mono (by omega))).alloc (by omega) _
  have CA := Lib.hid (l3Call_any w6.heap.size (w.heap.size + 1) 0 p K kk e s to w7 KB7 (cell_of_row w7 _ 0 _ _ _ X2) (cell_of_row w7 _ 1 _ _ _ X2) (cell_of_row w7 _ 2 _ _ _ X2) (cell_of_row w7 _ 3 _ _ _ X2) (by omega) (by omega) (by omega) V1.out HC.out)
  have H3 := Lib.hid X3
  have HW7 := Lib.hid hw7
  have US : Hid (w.heap.size ≤ p.g1 ∧ w.heap.size ≤ p.g2 ∧ w.heap.size ≤ p.g3 ∧ w.heap.size + 2 < p.g2 ∧ w.heap.size + 2 < p.g3 ∧ w.heap.size + 2 < p.g1 ∧ p.g1 < w7.heap.size ∧ p.g2 < w7.heap.size ∧ p.g3 < w7.heap.size ∧ w.heap.size + 3 ≤ w6.heap.size ∧ w6.heap.size < w7.heap.size) := by show _ ∧ _; omega
  clear ho hb KB7 X2 X3 CP B5 R5 hw7 s7 u1 u2 u3 u4 u5 u6 s5 s6
  go_wp2_with fail
  rw [← HW7.out]
  refine CA.out.mono ?_
  rintro e9 w8 ⟨p', rfl, kb, g1', g2', g3', kept⟩
  obtain ⟨y1, y2, y3, y4, y5, y11, y6, y7, y8, y9, y10⟩ := US.out
  have s8 : w7.heap.size ≤ w8.heap.size := kept.1.size
  have X3 := (kept.2 (w.heap.size + 2) (by omega) (by simp; omega)).trans H3.out
  have B8 := Lib.hid (B7.out.trans (kept.below (B := w.heap.size) (by omega) (by simp; omega)))
  have KW := Lib.hid kb
  have HZ := Lib.hid X3
  have GG := Lib.hid g1'
  have r0 := cell_of_row w8 _ 0 _ _ _ X3
  have f0 := frozen_of_row w8 _ 0 _ _ X3
  have r1 := cell_of_row w8 _ 1 _ _ _ X3
  have f1 := frozen_of_row w8 _ 1 _ _ X3
  have r2 := cell_of_row w8 _ 2 _ _ _ X3
  have f2 := frozen_of_row w8 _ 2 _ _ X3
  have r3 := cell_of_row w8 _ 3 _ _ _ X3
  have f3 := frozen_of_row w8 _ 3 _ _ X3
  have r4 := cell_of_row w8 _ 4 _ _ _ X3
  have f4 := frozen_of_row w8 _ 4 _ _ X3
  have r5 := cell_of_row w8 _ 5 _ _ _ X3
  have f5 := frozen_of_row w8 _ 5 _ _ X3
  have r6 := cell_of_row w8 _ 6 _ _ _ X3
  have f6 := frozen_of_row w8 _ 6 _ _ X3
  simp at r0 r1 r2 r3 r4 r5 r6
  obtain ⟨q0, q1, q2, q3, q4⟩ := kb.cells
  clear X3 kept kb g1' CA
  by_cases hq : (call3 K kk e s to).1 = 0
  · have hqa : ((call3 K kk e s to).1 != 0) = false := by simp [hq]
    have HD : Hid (docall K kk e s to = (0, (call3 K kk e s to).2)) := by
      show _ = _
      unfold docall orZero
      rw [if_neg (by simp [HV.out]), if_neg (by simp [HC.out]), if_neg (by simp [hq])]
      exact Prod.ext hq rfl
    clear hq
    go_wp2
    refine bodyPost_ret (results_cell_row rfl _ _ (w.heap.size + 2) _ _ (0, 0) _ rfl (blk7_set HZ.out _ _ _ _ _ _ _) Tryz.underlying35 rfl (by kernel_rfl)) rfl ?_
    rw [HD.out]
    have gg := GG.out
    refine kans_ker (p := p') ?_ ⟨by omega, by simp; omega⟩ ⟨by omega, by simp; omega⟩ ⟨by omega, by simp; omega⟩ (below7 B8.out (by omega) _ _ _ _ _ _ _)
    exact ⟨KW.out.own.l1, KW.out.own.l2, KW.out.own.l3, KW.out.own.nil1, far7 KW.out.own.m1 (by omega) _ _ _ _ _ _ _, far7 KW.out.own.m2 (by omega) _ _ _ _ _ _ _, far7 KW.out.own.m3 (by omega) _ _ _ _ _ _ _, KW.out.own.d12, KW.out.own.d13, KW.out.own.d23⟩
  · have hqa : ((call3 K kk e s to).1 != 0) = true := by simp [hq]
    have HD : Hid (docall K kk e s to = ((call3 K kk e s to).1, zeroKer)) := by
      show _ = _
      unfold docall orZero
      rw [if_neg (by simp [HV.out]), if_neg (by simp [HC.out]), if_pos hq]
    clear hq
    go_wp2
    refine bodyPost_ret (results_cell_row rfl _ _ (w.heap.size + 2) _ _ (0, 0) _ rfl (blk7_set HZ.out _ _ _ _ _ _ _) Tryz.underlying35 rfl (by kernel_rfl)) rfl ?_
    rw [HD.out]
    exact kans_code (below7 B8.out (by omega) _ _ _ _ _ _ _) (by simp; omega)

end Go.Proofs.YtlallklfilmcnaaGreat
