/-
  The model's DoTick, for every kernel that can be read and every act.
-/
import Derived.Test.YtckapndpefkcgaaGreatSpec3f
import Derived.Test.YtckapndpefkcgaaGreatSpec3w
set_option maxHeartbeats 1000000
namespace Go.Proofs.YtckapndpefkcgaaGreat
open Go.RowKit
set_option maxRecDepth 100000

noncomputable def dotick (K : Ker) (k to : Int) : Int × Ker × List Int := if kf K ≠ 0 then (kf K, zeroKer, []) else if evf 1 k to 0 0 0 0 ≠ 0 then (evf 1 k to 0 0 0 0, zeroKer, []) else if 100000 ≤ K.tick then (8, zeroKer, []) else (0, (tick3 K k to).1, (tick3 K k to).2)
theorem vf_os {xs : List Int} (h : vf xs = 0) : (1 ≤ xs.length ∧ xs.length ≤ 12) ∧ ∀ i, i < xs.length → gi xs i = -1 ∨ (0 ≤ gi xs i ∧ gi xs i < 4) := by
  obtain ⟨a, b, c, _⟩ := vf_zero h
  refine ⟨⟨a, b⟩, fun i hi => ?_⟩
  have h1 := c i hi
  unfold bad at h1
  simp [inEnv] at h1
  omega
theorem tk_of {K : Ker} (h : kf K = 0) (ht : ¬ 100000 ≤ K.tick) : TK K := by
  obtain ⟨h1, h2, h3⟩ := kf_zero h
  obtain ⟨a, b⟩ := vf_os h1
  unfold kf at h
  rw [if_neg (by simp [h1]), if_neg (by omega)] at h
  by_cases h4 : ∀ e, e < 4 → afk K e = 0
  · rw [if_neg (by simpa using h4)] at h
    by_cases h5 : ¬ (0 ≤ K.tick ∧ K.tick ≤ 100000) ∨ (K.run ≠ -1 ∧ inEnv K.run = false)
    · rw [if_pos h5] at h; omega
    · refine ⟨a, h2, h3, b, h4, by omega, ?_⟩
      by_cases h6 : K.run = -1
      · exact .inl h6
      · right
        have : inEnv K.run = true := by
          rcases hb : inEnv K.run with _ | _
          · exact absurd (Or.inr ⟨h6, hb⟩) h5
          · rfl
        simpa [inEnv] using this
  · rw [if_pos h4] at h; omega
theorem evf_to {k to : Int} (h : evf 1 k to 0 0 0 0 = 0) : 0 ≤ to ∧ to < 4 := by
  unfold evf at h
  rw [if_pos rfl] at h
  split at h
  · omega
  · split at h
    · rename_i hh; simpa [inEnv] using hh
    · omega
theorem kans_notes {K : Ker} {w w' : World} {p : Kp} {A : Option Addr} {n c g4 : Nat} {ns : List Int} (h : KOwn w' p K) (hl : ns.length = n * 3) (hm : Mine w' g4 (g4 + 1) 96 A (n * 3) (fun k => .int .i64 (gi ns k))) (e1 : p.g1 ≠ g4) (e2 : p.g2 ≠ g4) (e3 : p.g3 ≠ g4) (h4 : w.heap.size ≤ g4 ∧ g4 < w'.heap.size) (h1 : w.heap.size ≤ p.g1 ∧ p.g1 < w'.heap.size) (h2 : w.heap.size ≤ p.g2 ∧ p.g2 < w'.heap.size) (h3 : w.heap.size ≤ p.g3 ∧ p.g3 < w'.heap.size) (hb : Below w.heap.size w w') :
    KAns 0 K ns w (.returned (.agg #[.int .i64 0, .slice p.A1 p.n1 p.c1, .slice p.A2 4 p.c2, .slice p.A3 4 p.c3, .int .i64 K.tick, .int .i64 K.run, .slice A n c])) w' :=
  ⟨⟨p.A1, p.n1, p.c1, p.A2, 4, p.c2, p.A3, 4, p.c3, A, n, c, p.g1, p.g2, p.g3, g4⟩, rfl,
    ⟨h.l1, h.l2, h.l3, hl, h.nil1, h.m1, h.m2, h.m3, hm, fun _ _ => h.d12, fun _ _ => h.d13, fun _ _ => e1, fun _ _ => h.d23, fun _ _ => e2, fun _ _ => e3, h1, h2, h3, h4⟩, hb⟩

set_option maxHeartbeats 2000000 in
theorem specDoTick_any (lo hi : Nat) (A1 : Option Addr) (n1 c1 : Nat) (A2 : Option Addr) (n2 c2 : Nat) (A3 : Option Addr) (n3 c3 : Nat) (t r : Int) (K : Ker) (kk to : Int) (w : World) (hn1 : n1 * 8 ≤ 140737488351232) (hn3 : n3 * 32 ≤ 140737488351232)
    (h : KRead w lo hi A1 n1 A2 n2 A3 n3 K) (hA : A1 = none → c1 = 0) (et : K.tick = t) (er : K.run = r) :
    Calls Tryz.prog 25 #[.agg #[.slice A1 n1 c1, .slice A2 n2 c2, .slice A3 n3 c3, .int .i64 t, .int .i64 r], .agg #[.int .i64 kk, .int .i64 to]] w (KAns (dotick K kk to).1 (dotick K kk to).2.1 (dotick K kk to).2.2 w) := by
  have B3 : Hid (Below w.heap.size w (((w.alloc (.cells #[.slice A1 n1 c1, .slice A2 n2 c2, .slice A3 n3 c3, .int .i64 t, .int .i64 r] 39)).alloc (.cells #[.int .i64 kk, .int .i64 to] 53)).alloc (.cells #[.int .i64 0, .slice none 0 0, .slice none 0 0, .slice none 0 0, .int .i64 0, .int .i64 0, .slice none 0 0] 61))) := (((Below.refl _ _).alloc (Nat.le_refl _) _).alloc (by simp) _).alloc (by simp; omega) _
  have Z1 : Hid ((((w.alloc (.cells #[.slice A1 n1 c1, .slice A2 n2 c2, .slice A3 n3 c3, .int .i64 t, .int .i64 r] 39)).alloc (.cells #[.int .i64 kk, .int .i64 to] 53)).alloc (.cells #[.int .i64 0, .slice none 0 0, .slice none 0 0, .slice none 0 0, .int .i64 0, .int .i64 0, .slice none 0 0] 61)).heap[w.heap.size]? = some (.cells #[.slice A1 n1 c1, .slice A2 n2 c2, .slice A3 n3 c3, .int .i64 t, .int .i64 r] 39 (0, 0))) := (Below.heap_alloc _ _ _ (by simp; omega)).trans (heap_alloc2_old w _ _)
  have Z2 : Hid ((((w.alloc (.cells #[.slice A1 n1 c1, .slice A2 n2 c2, .slice A3 n3 c3, .int .i64 t, .int .i64 r] 39)).alloc (.cells #[.int .i64 kk, .int .i64 to] 53)).alloc (.cells #[.int .i64 0, .slice none 0 0, .slice none 0 0, .slice none 0 0, .int .i64 0, .int .i64 0, .slice none 0 0] 61)).heap[w.heap.size + 1]? = some (.cells #[.int .i64 kk, .int .i64 to] 53 (0, 0))) := (Below.heap_alloc _ _ _ (by simp)).trans (heap_alloc2_new w _ _)
  have Z3 : Hid ((((w.alloc (.cells #[.slice A1 n1 c1, .slice A2 n2 c2, .slice A3 n3 c3, .int .i64 t, .int .i64 r] 39)).alloc (.cells #[.int .i64 kk, .int .i64 to] 53)).alloc (.cells #[.int .i64 0, .slice none 0 0, .slice none 0 0, .slice none 0 0, .int .i64 0, .int .i64 0, .slice none 0 0] 61)).heap[w.heap.size + 2]? = some (.cells #[.int .i64 0, .slice none 0 0, .slice none 0 0, .slice none 0 0, .int .i64 0, .int .i64 0, .slice none 0 0] 61 (0, 0))) := by
    have := heap_alloc_new ((w.alloc (.cells #[.slice A1 n1 c1, .slice A2 n2 c2, .slice A3 n3 c3, .int .i64 t, .int .i64 r] 39)).alloc (.cells #[.int .i64 kk, .int .i64 to] 53)) (.cells #[.int .i64 0, .slice none 0 0, .slice none 0 0, .slice none 0 0, .int .i64 0, .int .i64 0, .slice none 0 0] 61)
    simp only [World.size_alloc] at this
    exact this
  have s3 : (((w.alloc (.cells #[.slice A1 n1 c1, .slice A2 n2 c2, .slice A3 n3 c3, .int .i64 t, .int .i64 r] 39)).alloc (.cells #[.int .i64 kk, .int .i64 to] 53)).alloc (.cells #[.int .i64 0, .slice none 0 0, .slice none 0 0, .slice none 0 0, .int .i64 0, .int .i64 0, .slice none 0 0] 61)).heap.size = w.heap.size + 3 := by simp
  have R := Lib.hid (h.lt.below B3.out (Nat.min_le_right _ _))
  obtain ⟨l1, l2, l3⟩ := h.1
  have KF := Lib.hid (specKernelFault_any lo (min hi w.heap.size) A1 n1 c1 A2 n2 c2 A3 n3 c3 t r K (((w.alloc (.cells #[.slice A1 n1 c1, .slice A2 n2 c2, .slice A3 n3 c3, .int .i64 t, .int .i64 r] 39)).alloc (.cells #[.int .i64 kk, .int .i64 to] 53)).alloc (.cells #[.int .i64 0, .slice none 0 0, .slice none 0 0, .slice none 0 0, .int .i64 0, .int .i64 0, .slice none 0 0] 61)) hn1 hn3 R.out et er)
  have ET := Lib.hid et; have ER := Lib.hid er; have HA := Lib.hid hA; have L1 := Lib.hid l1
  clear h hA et er
  go_enter Tryz.func25, Tryz.ntmps25
  go_wp2_with fail
  refine KF.out.mono ?_
  rintro e9 w4 ⟨rfl, hb⟩
  have X1 := (hb.block w.heap.size (by omega)).trans Z1.out
  have X2 := (hb.block (w.heap.size + 1) (by omega)).trans Z2.out
  have X3 := (hb.block (w.heap.size + 2) (by omega)).trans Z3.out
  have s4 : w.heap.size + 3 ≤ w4.heap.size := by have := hb.size; omega
  have B4 := Lib.hid (B3.out.trans (hb.mono (by omega)))
  have R4 := Lib.hid (R.out.below hb (by omega))
  clear hb KF B3 R Z1 Z2 Z3
  by_cases hv : kf K = 0
  case neg =>
    have hva : (kf K != 0) = true := by simp [hv]
    have HD : Hid (dotick K kk to = (kf K, zeroKer, [])) := by show _ = _; unfold dotick; rw [if_pos hv]
    have HZ := Lib.hid X3
    have r0 := cell_of_row w4 _ 0 _ _ _ X3
    have f0 := frozen_of_row w4 _ 0 _ _ X3
    have r1 := cell_of_row w4 _ 1 _ _ _ X3
    have f1 := frozen_of_row w4 _ 1 _ _ X3
    have r2 := cell_of_row w4 _ 2 _ _ _ X3
    have f2 := frozen_of_row w4 _ 2 _ _ X3
    have r3 := cell_of_row w4 _ 3 _ _ _ X3
    have f3 := frozen_of_row w4 _ 3 _ _ X3
    have r4 := cell_of_row w4 _ 4 _ _ _ X3
    have f4 := frozen_of_row w4 _ 4 _ _ X3
    have r5 := cell_of_row w4 _ 5 _ _ _ X3
    have f5 := frozen_of_row w4 _ 5 _ _ X3
    have r6 := cell_of_row w4 _ 6 _ _ _ X3
    have f6 := frozen_of_row w4 _ 6 _ _ X3
    simp at r0 r1 r2 r3 r4 r5 r6
    clear X1 X2 X3 hv s3
    go_wp2
    refine bodyPost_ret (results_cell_row rfl _ _ (w.heap.size + 2) _ _ (0, 0) _ rfl (blk7_set HZ.out _ _ _ _ _ _ _) Tryz.underlying61 rfl (by kernel_rfl)) rfl ?_
    rw [HD.out]
    exact kans_code (below7 B4.out (by omega) _ _ _ _ _ _ _) (by simp; omega)
  have hva : (kf K != 0) = false := by simp [hv]
  have b0 := cell_of_row w4 _ 0 _ _ _ X2; have b1 := cell_of_row w4 _ 1 _ _ _ X2
  simp at b0 b1
  have HV := Lib.hid hv
  have H1 := Lib.hid X1; have H2 := Lib.hid X2; have H3 := Lib.hid X3
  clear X1 X2 X3 hv s3
  go_wp2_with fail
  refine (specEventFault_any 1 kk to 0 0 0 0 _).mono ?_
  rintro e9 w5 ⟨rfl, hb⟩
  have X1 := (hb.block w.heap.size (by omega)).trans H1.out
  have X2 := (hb.block (w.heap.size + 1) (by omega)).trans H2.out
  have X3 := (hb.block (w.heap.size + 2) (by omega)).trans H3.out
  have s5 : w.heap.size + 3 ≤ w5.heap.size := by have := hb.size; omega
  have B5 := Lib.hid (B4.out.trans (hb.mono (by omega)))
  have R5 := Lib.hid (R4.out.below hb (by omega))
  clear hb B4 R4 H1 H2 H3 b0 b1
  by_cases hc : evf 1 kk to 0 0 0 0 = 0
  case neg =>
    have hca : (evf 1 kk to 0 0 0 0 != 0) = true := by simp [hc]
    have HD : Hid (dotick K kk to = (evf 1 kk to 0 0 0 0, zeroKer, [])) := by show _ = _; unfold dotick; rw [if_neg (by simp [HV.out]), if_pos hc]
    have HZ := Lib.hid X3
    have r0 := cell_of_row w5 _ 0 _ _ _ X3
    have f0 := frozen_of_row w5 _ 0 _ _ X3
    have r1 := cell_of_row w5 _ 1 _ _ _ X3
    have f1 := frozen_of_row w5 _ 1 _ _ X3
    have r2 := cell_of_row w5 _ 2 _ _ _ X3
    have f2 := frozen_of_row w5 _ 2 _ _ X3
    have r3 := cell_of_row w5 _ 3 _ _ _ X3
    have f3 := frozen_of_row w5 _ 3 _ _ X3
    have r4 := cell_of_row w5 _ 4 _ _ _ X3
    have f4 := frozen_of_row w5 _ 4 _ _ X3
    have r5 := cell_of_row w5 _ 5 _ _ _ X3
    have f5 := frozen_of_row w5 _ 5 _ _ X3
    have r6 := cell_of_row w5 _ 6 _ _ _ X3
    have f6 := frozen_of_row w5 _ 6 _ _ X3
    simp at r0 r1 r2 r3 r4 r5 r6
    clear X1 X2 X3 hc
    go_wp2
    refine bodyPost_ret (results_cell_row rfl _ _ (w.heap.size + 2) _ _ (0, 0) _ rfl (blk7_set HZ.out _ _ _ _ _ _ _) Tryz.underlying61 rfl (by kernel_rfl)) rfl ?_
    rw [HD.out]
    exact kans_code (below7 B5.out (by omega) _ _ _ _ _ _ _) (by simp; omega)
  have hca : (evf 1 kk to 0 0 0 0 != 0) = false := by simp [hc]
  have HC := Lib.hid hc
  have x4 := cell_of_row w5 _ 3 _ _ _ X1
  simp at x4
  by_cases hm : 100000 ≤ K.tick
  case pos =>
    have hm' : (100000 : Int) ≤ t := by rw [← ET.out]; exact hm
    have hma : decide ((100000 : Int) ≤ t) = true := decide_eq_true hm'
    have HD : Hid (dotick K kk to = (8, zeroKer, [])) := by show _ = _; unfold dotick; rw [if_neg (by simp [HV.out]), if_neg (by simp [HC.out]), if_pos hm]
    have HZ := Lib.hid X3
    have r0 := cell_of_row w5 _ 0 _ _ _ X3
    have f0 := frozen_of_row w5 _ 0 _ _ X3
    have r1 := cell_of_row w5 _ 1 _ _ _ X3
    have f1 := frozen_of_row w5 _ 1 _ _ X3
    have r2 := cell_of_row w5 _ 2 _ _ _ X3
    have f2 := frozen_of_row w5 _ 2 _ _ X3
    have r3 := cell_of_row w5 _ 3 _ _ _ X3
    have f3 := frozen_of_row w5 _ 3 _ _ X3
    have r4 := cell_of_row w5 _ 4 _ _ _ X3
    have f4 := frozen_of_row w5 _ 4 _ _ X3
    have r5 := cell_of_row w5 _ 5 _ _ _ X3
    have f5 := frozen_of_row w5 _ 5 _ _ X3
    have r6 := cell_of_row w5 _ 6 _ _ _ X3
    have f6 := frozen_of_row w5 _ 6 _ _ X3
    simp at r0 r1 r2 r3 r4 r5 r6
    clear X1 X2 X3 hc hm hm'
    go_wp2
    refine bodyPost_ret (results_cell_row rfl _ _ (w.heap.size + 2) _ _ (0, 0) _ rfl (blk7_set HZ.out _ _ _ _ _ _ _) Tryz.underlying61 rfl (by kernel_rfl)) rfl ?_
    rw [HD.out]
    exact kans_code (below7 B5.out (by omega) _ _ _ _ _ _ _) (by simp; omega)
  have hma : decide ((100000 : Int) ≤ t) = false := decide_eq_false (by rw [← ET.out]; exact hm)
  have HM := Lib.hid hm
  have TT := Lib.hid (tk_of HV.out hm)
  have TO := Lib.hid (evf_to HC.out)
  clear hm
  obtain ⟨v1, v2, v3⟩ := kf_zero HV.out
  obtain ⟨w1', w2', _, _⟩ := vf_zero v1
  obtain rfl : n2 = 4 := by omega
  obtain rfl : n3 = 4 := by omega
  have H2 := Lib.hid X2; have H3 := Lib.hid X3
  have CP := Lib.hid (l3Copy_any w.heap.size lo (min hi w.heap.size) A1 n1 c1 A2 c2 A3 c3 t r K w5 X1 R5.out HA.out (by omega) (by omega))
  clear X1 X2 X3 hc v1
  go_wp2_with fail
  refine CP.out.mono ?_
  rintro e9 w6 ⟨p, rfl, ho, hg, hb⟩
  obtain ⟨u1, u2, u3, u4, u5, u6⟩ := hg
  have s6 : w5.heap.size ≤ w6.heap.size := hb.size
  obtain ⟨w7, hw7⟩ : ∃ w7, w7 = w6.alloc (.cells #[.slice p.A1 p.n1 p.c1, .slice p.A2 4 p.c2, .slice p.A3 4 p.c3, .int .i64 t, .int .i64 r] 39) := ⟨_, rfl⟩
  have s7 : w7.heap.size = w6.heap.size + 1 := by rw [hw7]; simp
  have KB7 : KB w7 w6.heap.size p K := by
    rw [hw7]
    refine ⟨?_, ⟨ho.l1, ho.l2, ho.l3, ho.nil1, ho.m1.below (below_new w6 _) (by omega), ho.m2.below (below_new w6 _) (by omega), ho.m3.below (below_new w6 _) (by omega), ho.d12, ho.d13, ho.d23⟩, by omega, by omega, by omega⟩
    rw [ET.out, ER.out]
    exact heap_alloc_new w6 _
  have X2 := (Below.heap_alloc w6 (.cells #[.slice p.A1 p.n1 p.c1, .slice p.A2 4 p.c2, .slice p.A3 4 p.c3, .int .i64 t, .int .i64 r] 39) (w.heap.size + 1) (by omega)).trans ((hb.block (w.heap.size + 1) (by omega)).trans H2.out)
  have X3 := (Below.heap_alloc w6 (.cells #[.slice p.A1 p.n1 p.c1, .slice p.A2 4 p.c2, .slice p.A3 4 p.c3, .int .i64 t, .int .i64 r] 39) (w.heap.size + 2) (by omega)).trans ((hb.block (w.heap.size + 2) (by omega)).trans H3.out)
  rw [← hw7] at X2 X3
  have B7 : Hid (Below w.heap.size w w7) := by rw [hw7]; exact (B5.out.trans (hb.mono (by omega))).alloc (by omega) _
  have CA := Lib.hid (specTick_any KB7 TT.out (w.heap.size + 1) 0 kk to TO.out (by omega) (cell_of_row w7 _ 0 _ _ _ X2) (cell_of_row w7 _ 1 _ _ _ X2))
  have H3 := Lib.hid X3
  have HW7 := Lib.hid hw7
  have US : Hid ((w.heap.size ≤ p.g1 ∧ w.heap.size ≤ p.g2 ∧ w.heap.size ≤ p.g3 ∧ w.heap.size + 2 < p.g2 ∧ w.heap.size + 2 < p.g3 ∧ w.heap.size + 2 < p.g1 ∧ p.g1 < w7.heap.size ∧ p.g2 < w7.heap.size ∧ p.g3 < w7.heap.size ∧ w.heap.size + 3 ≤ w6.heap.size ∧ w6.heap.size < w7.heap.size) ∧ p.g1 < w6.heap.size ∧ p.g2 < w6.heap.size ∧ p.g3 < w6.heap.size) := by show _ ∧ _; omega
  clear ho hb KB7 X2 X3 CP B5 R5 hw7 s7 u1 u2 u3 u4 u5 u6 s5 s6
  go_wp2_with fail
  rw [← HW7.out]
  refine CA.out.mono ?_
  rintro e9 w8 ⟨A4, n4, c4, rfl, ho, kb, kept⟩
  obtain ⟨⟨y1, y2, y3, y4, y5, y11, y6, y7, y8, y9, y10⟩, y12, y13, y14⟩ := US.out
  have s8 : w7.heap.size ≤ w8.heap.size := kept.1.size
  have X3 := (kept.2 (w.heap.size + 2) (by omega) (by simp; omega)).trans H3.out
  have B8 := Lib.hid (B7.out.trans (kept.below (B := w.heap.size) (by omega) (by simp; omega)))
  have KW := Lib.hid kb
  have HZ := Lib.hid X3
  have O8 := Lib.hid ho
  have r0 := cell_of_row w8 _ 0 _ _ _ X3
  have f0 := frozen_of_row w8 _ 0 _ _ X3
  have r1 := cell_of_row w8 _ 1 _ _ _ X3
  have f1 := frozen_of_row w8 _ 1 _ _ X3
  have r2 := cell_of_row w8 _ 2 _ _ _ X3
  have f2 := frozen_of_row w8 _ 2 _ _ X3
  have r3 := cell_of_row w8 _ 3 _ _ _ X3
  have f3 := frozen_of_row w8 _ 3 _ _ X3
  have r4 := cell_of_row w8 _ 4 _ _ _ X3
  have f4 := frozen_of_row w8 _ 4 _ _ X3
  have r5 := cell_of_row w8 _ 5 _ _ _ X3
  have f5 := frozen_of_row w8 _ 5 _ _ X3
  have r6 := cell_of_row w8 _ 6 _ _ _ X3
  have f6 := frozen_of_row w8 _ 6 _ _ X3
  simp at r0 r1 r2 r3 r4 r5 r6
  obtain ⟨q0, q1, q2, q3, q4⟩ := kb.cells
  clear X3 kept kb ho CA
  have HD : Hid (dotick K kk to = (0, (tick3 K kk to).1, (tick3 K kk to).2)) := by
    show _ = _
    unfold dotick
    rw [if_neg (by simp [HV.out]), if_neg (by simp [HC.out]), if_neg (by have := HM.out; omega)]
  go_wp2
  refine bodyPost_ret (results_cell_row rfl _ _ (w.heap.size + 2) _ _ (0, 0) _ rfl (blk7_set HZ.out _ _ _ _ _ _ _) Tryz.underlying61 rfl (by kernel_rfl)) rfl ?_
  rw [HD.out]
  obtain ⟨g4, z1, z2, z3⟩ := (O8.out.mono (base' := w6.heap.size) (by omega)).mine (by omega)
  refine kans_notes (p := p) (g4 := g4) ?_ O8.out.len (far7 z3 (by omega) _ _ _ _ _ _ _) (by omega) (by omega) (by omega) ⟨by omega, by simp; omega⟩ ⟨by omega, by simp; omega⟩ ⟨by omega, by simp; omega⟩ ⟨by omega, by simp; omega⟩ (below7 B8.out (by omega) _ _ _ _ _ _ _)
  exact ⟨KW.out.own.l1, KW.out.own.l2, KW.out.own.l3, KW.out.own.nil1, far7 KW.out.own.m1 (by omega) _ _ _ _ _ _ _, far7 KW.out.own.m2 (by omega) _ _ _ _ _ _ _, far7 KW.out.own.m3 (by omega) _ _ _ _ _ _ _, KW.out.own.d12, KW.out.own.d13, KW.out.own.d23⟩

end Go.Proofs.YtckapndpefkcgaaGreat
