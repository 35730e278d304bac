/-
  The laws' helpers on accounts, and the model's functions of chapter 2: what each answers, for every account. No conditions.
-/
import Derived.Test.YtckapndpefkcgaaGreatSpec1
import Derived.Test.YtckapndpefkcgaaGreatMath3
set_option maxHeartbeats 1000000
namespace Go.Proofs.YtckapndpefkcgaaGreat
open Go.RowKit

theorem specAccountFault_any (u x g d : Int) (w : World) :
    Calls Tryz.prog 99 #[.agg #[.int .i64 u, .int .i64 x, .int .i64 g, .int .i64 d]] w fun e w' => e = .returned (.int .i64 (af u x g d)) ∧ Below w.heap.size w w' := by
  have B1 := Lib.hid (below_new w (.cells #[.int .i64 u, .int .i64 x, .int .i64 g, .int .i64 d] 68))
  by_cases h0 : 0 ≤ u ∧ u ≤ 1000000
  case neg =>
    have i0 : inR 0 1000000 u = false := inR_false h0
    have HA := Lib.hid (af_bad (u := u) (x := x) (g := g) (d := d) (by omega))
    clear h0
    go_enter Tryz.func99, Tryz.ntmps99
    go_wp2_with (go_at_call 94; refine (l1In_any _ _ _ _).mono ?_; rintro e w' ⟨rfl, rfl⟩)
    go_ret
    exact ⟨ret_i64 HA.out.symm, B1.out⟩
  have i0 : inR 0 1000000 u = true := inR_true h0
  by_cases h1 : 0 ≤ x ∧ x ≤ 1000000
  case neg =>
    have i1 : inR 0 1000000 x = false := inR_false h1
    have HA := Lib.hid (af_bad (u := u) (x := x) (g := g) (d := d) (by omega))
    clear h0 h1
    go_enter Tryz.func99, Tryz.ntmps99
    go_wp2_with (go_at_call 94; refine (l1In_any _ _ _ _).mono ?_; rintro e w' ⟨rfl, rfl⟩)
    go_ret
    exact ⟨ret_i64 HA.out.symm, B1.out⟩
  have i1 : inR 0 1000000 x = true := inR_true h1
  by_cases h2 : 0 ≤ g ∧ g ≤ 1000000
  case neg =>
    have i2 : inR 0 1000000 g = false := inR_false h2
    have HA := Lib.hid (af_bad (u := u) (x := x) (g := g) (d := d) (by omega))
    clear h0 h1 h2
    go_enter Tryz.func99, Tryz.ntmps99
    go_wp2_with (go_at_call 94; refine (l1In_any _ _ _ _).mono ?_; rintro e w' ⟨rfl, rfl⟩)
    go_ret
    exact ⟨ret_i64 HA.out.symm, B1.out⟩
  have i2 : inR 0 1000000 g = true := inR_true h2
  by_cases h3 : 0 ≤ d ∧ d ≤ 3
  case neg =>
    have i3 : inR 0 3 d = false := inR_false h3
    have HA := Lib.hid (af_bad (u := u) (x := x) (g := g) (d := d) (by omega))
    clear h0 h1 h2 h3
    go_enter Tryz.func99, Tryz.ntmps99
    go_wp2_with (go_at_call 94; refine (l1In_any _ _ _ _).mono ?_; rintro e w' ⟨rfl, rfl⟩)
    go_ret
    exact ⟨ret_i64 HA.out.symm, B1.out⟩
  have i3 : inR 0 3 d = true := inR_true h3
  have HA := Lib.hid (af_ok (u := u) (x := x) (g := g) (d := d) (by omega))
  clear h0 h1 h2 h3
  go_enter Tryz.func99, Tryz.ntmps99
  go_wp2_with (go_at_call 94; refine (l1In_any _ _ _ _).mono ?_; rintro e w' ⟨rfl, rfl⟩)
  go_ret
  exact ⟨ret_i64 HA.out.symm, B1.out⟩

theorem specUseTick_any (u x g d : Int) (late : Bool) (w : World) :
    Calls Tryz.prog 154 #[.agg #[.int .i64 u, .int .i64 x, .int .i64 g, .int .i64 d], .bool late] w fun e w' => e = .returned (rv2 (use2 u x g d late)) ∧ Below w.heap.size w w' := by
  have B2 : Hid (Below w.heap.size w ((w.alloc (.cells #[.int .i64 u, .int .i64 x, .int .i64 g, .int .i64 d] 68)).alloc (.cells #[.int .i64 0, .int .i64 0, .int .i64 0, .int .i64 0, .int .i64 0, .bool false] 163))) := (below_new w _).alloc (by simp) _
  have K1 : Hid (((w.alloc (.cells #[.int .i64 u, .int .i64 x, .int .i64 g, .int .i64 d] 68)).alloc (.cells #[.int .i64 0, .int .i64 0, .int .i64 0, .int .i64 0, .int .i64 0, .bool false] 163)).heap[w.heap.size]? = some (.cells #[.int .i64 u, .int .i64 x, .int .i64 g, .int .i64 d] 68 (0, 0))) := heap_alloc2_old w _ _
  have K2 : Hid (((w.alloc (.cells #[.int .i64 u, .int .i64 x, .int .i64 g, .int .i64 d] 68)).alloc (.cells #[.int .i64 0, .int .i64 0, .int .i64 0, .int .i64 0, .int .i64 0, .bool false] 163)).heap[w.heap.size + 1]? = some (.cells #[.int .i64 0, .int .i64 0, .int .i64 0, .int .i64 0, .int .i64 0, .bool false] 163 (0, 0))) := heap_alloc2_new w _ _
  have C := Lib.hid (specAccountFault_any u x g d ((w.alloc (.cells #[.int .i64 u, .int .i64 x, .int .i64 g, .int .i64 d] 68)).alloc (.cells #[.int .i64 0, .int .i64 0, .int .i64 0, .int .i64 0, .int .i64 0, .bool false] 163)))
  by_cases hv : af u x g d = 0
  case neg =>
    have hv' : (af u x g d != 0) = true := by simp [hv]
    have HV := Lib.hid hv
    clear hv
    go_enter Tryz.func154, Tryz.ntmps154
    go_wp2_with fail
    refine C.out.mono ?_
    rintro e w1 ⟨rfl, hb⟩
    have k1 := (hb.block w.heap.size (by simp; omega)).trans K1.out
    have k2 := (hb.block (w.heap.size + 1) (by simp)).trans K2.out
    have HB := Lib.hid (B2.out.trans (hb.mono (by simp; omega)))
    have q0 := cell_of_row w1 _ 0 _ _ _ k1
    have f0 := frozen_of_row w1 _ 0 _ _ k1
    have q1 := cell_of_row w1 _ 1 _ _ _ k1
    have f1 := frozen_of_row w1 _ 1 _ _ k1
    have q2 := cell_of_row w1 _ 2 _ _ _ k1
    have f2 := frozen_of_row w1 _ 2 _ _ k1
    have q3 := cell_of_row w1 _ 3 _ _ _ k1
    have f3 := frozen_of_row w1 _ 3 _ _ k1
    have r0 := cell_of_row w1 _ 0 _ _ _ k2
    have e0 := frozen_of_row w1 _ 0 _ _ k2
    have r1 := cell_of_row w1 _ 1 _ _ _ k2
    have e1 := frozen_of_row w1 _ 1 _ _ k2
    have r2 := cell_of_row w1 _ 2 _ _ _ k2
    have e2 := frozen_of_row w1 _ 2 _ _ k2
    have r3 := cell_of_row w1 _ 3 _ _ _ k2
    have e3 := frozen_of_row w1 _ 3 _ _ k2
    have r4 := cell_of_row w1 _ 4 _ _ _ k2
    have e4 := frozen_of_row w1 _ 4 _ _ k2
    have r5 := cell_of_row w1 _ 5 _ _ _ k2
    have e5 := frozen_of_row w1 _ 5 _ _ k2
    simp at q0 q1 q2 q3 r0 r1 r2 r3 r4 r5
    have HK := Lib.hid k2
    clear hb k1 k2 C K1 K2
    go_wp2
    refine bodyPost_ret (results_cell_row rfl _ _ (w.heap.size + 1) _ _ (0, 0) _ rfl (blk6_set HK.out _ _ _ _ _ _) Tryz.underlying163 rfl (by kernel_rfl)) rfl ⟨?_, below6 HB.out (by omega) _ _ _ _ _ _⟩
    rw [show use2 u x g d late = (af u x g d, 0, 0, 0, 0, false) by unfold use2; rw [if_pos HV.out], rv_eq]
  have hv' : (af u x g d != 0) = false := by simp [hv]
  obtain ⟨⟨u0, u1⟩, ⟨x0, x1⟩, ⟨g0, g1⟩, ⟨d0, d1⟩⟩ := af_zero hv
  have HV := Lib.hid hv
  clear hv
  cases late
  · by_cases hq : 1000000 ≤ u
    · go_enter Tryz.func154, Tryz.ntmps154
      go_wp2_with fail
      refine C.out.mono ?_
      rintro e w1 ⟨rfl, hb⟩
      have k1 := (hb.block w.heap.size (by simp; omega)).trans K1.out
      have k2 := (hb.block (w.heap.size + 1) (by simp)).trans K2.out
      have HB := Lib.hid (B2.out.trans (hb.mono (by simp; omega)))
      have q0 := cell_of_row w1 _ 0 _ _ _ k1
      have f0 := frozen_of_row w1 _ 0 _ _ k1
      have q1 := cell_of_row w1 _ 1 _ _ _ k1
      have f1 := frozen_of_row w1 _ 1 _ _ k1
      have q2 := cell_of_row w1 _ 2 _ _ _ k1
      have f2 := frozen_of_row w1 _ 2 _ _ k1
      have q3 := cell_of_row w1 _ 3 _ _ _ k1
      have f3 := frozen_of_row w1 _ 3 _ _ k1
      have r0 := cell_of_row w1 _ 0 _ _ _ k2
      have e0 := frozen_of_row w1 _ 0 _ _ k2
      have r1 := cell_of_row w1 _ 1 _ _ _ k2
      have e1 := frozen_of_row w1 _ 1 _ _ k2
      have r2 := cell_of_row w1 _ 2 _ _ _ k2
      have e2 := frozen_of_row w1 _ 2 _ _ k2
      have r3 := cell_of_row w1 _ 3 _ _ _ k2
      have e3 := frozen_of_row w1 _ 3 _ _ k2
      have r4 := cell_of_row w1 _ 4 _ _ _ k2
      have e4 := frozen_of_row w1 _ 4 _ _ k2
      have r5 := cell_of_row w1 _ 5 _ _ _ k2
      have e5 := frozen_of_row w1 _ 5 _ _ k2
      simp at q0 q1 q2 q3 r0 r1 r2 r3 r4 r5
      have HK := Lib.hid k2
      clear hb k1 k2 C K1 K2
      go_wp2
      refine bodyPost_ret (results_cell_row rfl _ _ (w.heap.size + 1) _ _ (0, 0) _ rfl (blk6_set HK.out _ _ _ _ _ _) Tryz.underlying163 rfl (by kernel_rfl)) rfl ⟨?_, below6 HB.out (by omega) _ _ _ _ _ _⟩
      rw [show use2 u x g d false = (8, 0, 0, 0, 0, false) by unfold use2; rw [if_neg (by rw [HV.out]; simp), if_neg (by simp), if_pos hq], rv_eq]
    · go_enter Tryz.func154, Tryz.ntmps154
      go_wp2_with fail
      refine C.out.mono ?_
      rintro e w1 ⟨rfl, hb⟩
      have k1 := (hb.block w.heap.size (by simp; omega)).trans K1.out
      have k2 := (hb.block (w.heap.size + 1) (by simp)).trans K2.out
      have HB := Lib.hid (B2.out.trans (hb.mono (by simp; omega)))
      have q0 := cell_of_row w1 _ 0 _ _ _ k1
      have f0 := frozen_of_row w1 _ 0 _ _ k1
      have q1 := cell_of_row w1 _ 1 _ _ _ k1
      have f1 := frozen_of_row w1 _ 1 _ _ k1
      have q2 := cell_of_row w1 _ 2 _ _ _ k1
      have f2 := frozen_of_row w1 _ 2 _ _ k1
      have q3 := cell_of_row w1 _ 3 _ _ _ k1
      have f3 := frozen_of_row w1 _ 3 _ _ k1
      have r0 := cell_of_row w1 _ 0 _ _ _ k2
      have e0 := frozen_of_row w1 _ 0 _ _ k2
      have r1 := cell_of_row w1 _ 1 _ _ _ k2
      have e1 := frozen_of_row w1 _ 1 _ _ k2
      have r2 := cell_of_row w1 _ 2 _ _ _ k2
      have e2 := frozen_of_row w1 _ 2 _ _ k2
      have r3 := cell_of_row w1 _ 3 _ _ _ k2
      have e3 := frozen_of_row w1 _ 3 _ _ k2
      have r4 := cell_of_row w1 _ 4 _ _ _ k2
      have e4 := frozen_of_row w1 _ 4 _ _ k2
      have r5 := cell_of_row w1 _ 5 _ _ _ k2
      have e5 := frozen_of_row w1 _ 5 _ _ k2
      simp at q0 q1 q2 q3 r0 r1 r2 r3 r4 r5
      have HK := Lib.hid ((Below.heap_setCell w1 ⟨w.heap.size, 0, none⟩ (.int .i64 (u + 1)) (w.heap.size + 1) (by simp)).trans k2)
      clear hb k1 k2 C K1 K2
      go_wp2
      refine bodyPost_ret (results_cell_row rfl _ _ (w.heap.size + 1) _ _ (0, 0) _ rfl (blk6_set HK.out _ _ _ _ _ _) Tryz.underlying163 rfl (by kernel_rfl)) rfl ⟨?_, below6 (HB.out.setCell (p := ⟨w.heap.size, 0, none⟩) (Nat.le_refl _) _) (by omega) _ _ _ _ _ _⟩
      rw [show use2 u x g d false = (0, u + 1, x, g, d, false) by unfold use2; rw [if_neg (by rw [HV.out]; simp), if_neg (by simp), if_neg (by omega)], rv_eq]
  · by_cases hq : 1000000 ≤ x
    · go_enter Tryz.func154, Tryz.ntmps154
      go_wp2_with fail
      refine C.out.mono ?_
      rintro e w1 ⟨rfl, hb⟩
      have k1 := (hb.block w.heap.size (by simp; omega)).trans K1.out
      have k2 := (hb.block (w.heap.size + 1) (by simp)).trans K2.out
      have HB := Lib.hid (B2.out.trans (hb.mono (by simp; omega)))
      have q0 := cell_of_row w1 _ 0 _ _ _ k1
      have f0 := frozen_of_row w1 _ 0 _ _ k1
      have q1 := cell_of_row w1 _ 1 _ _ _ k1
      have f1 := frozen_of_row w1 _ 1 _ _ k1
      have q2 := cell_of_row w1 _ 2 _ _ _ k1
      have f2 := frozen_of_row w1 _ 2 _ _ k1
      have q3 := cell_of_row w1 _ 3 _ _ _ k1
      have f3 := frozen_of_row w1 _ 3 _ _ k1
      have r0 := cell_of_row w1 _ 0 _ _ _ k2
      have e0 := frozen_of_row w1 _ 0 _ _ k2
      have r1 := cell_of_row w1 _ 1 _ _ _ k2
      have e1 := frozen_of_row w1 _ 1 _ _ k2
      have r2 := cell_of_row w1 _ 2 _ _ _ k2
      have e2 := frozen_of_row w1 _ 2 _ _ k2
      have r3 := cell_of_row w1 _ 3 _ _ _ k2
      have e3 := frozen_of_row w1 _ 3 _ _ k2
      have r4 := cell_of_row w1 _ 4 _ _ _ k2
      have e4 := frozen_of_row w1 _ 4 _ _ k2
      have r5 := cell_of_row w1 _ 5 _ _ _ k2
      have e5 := frozen_of_row w1 _ 5 _ _ k2
      simp at q0 q1 q2 q3 r0 r1 r2 r3 r4 r5
      have HK := Lib.hid k2
      clear hb k1 k2 C K1 K2
      go_wp2
      refine bodyPost_ret (results_cell_row rfl _ _ (w.heap.size + 1) _ _ (0, 0) _ rfl (blk6_set HK.out _ _ _ _ _ _) Tryz.underlying163 rfl (by kernel_rfl)) rfl ⟨?_, below6 HB.out (by omega) _ _ _ _ _ _⟩
      rw [show use2 u x g d true = (8, 0, 0, 0, 0, false) by unfold use2; rw [if_neg (by rw [HV.out]; simp), if_pos rfl, if_pos hq], rv_eq]
    · go_enter Tryz.func154, Tryz.ntmps154
      go_wp2_with fail
      refine C.out.mono ?_
      rintro e w1 ⟨rfl, hb⟩
      have k1 := (hb.block w.heap.size (by simp; omega)).trans K1.out
      have k2 := (hb.block (w.heap.size + 1) (by simp)).trans K2.out
      have HB := Lib.hid (B2.out.trans (hb.mono (by simp; omega)))
      have q0 := cell_of_row w1 _ 0 _ _ _ k1
      have f0 := frozen_of_row w1 _ 0 _ _ k1
      have q1 := cell_of_row w1 _ 1 _ _ _ k1
      have f1 := frozen_of_row w1 _ 1 _ _ k1
      have q2 := cell_of_row w1 _ 2 _ _ _ k1
      have f2 := frozen_of_row w1 _ 2 _ _ k1
      have q3 := cell_of_row w1 _ 3 _ _ _ k1
      have f3 := frozen_of_row w1 _ 3 _ _ k1
      have r0 := cell_of_row w1 _ 0 _ _ _ k2
      have e0 := frozen_of_row w1 _ 0 _ _ k2
      have r1 := cell_of_row w1 _ 1 _ _ _ k2
      have e1 := frozen_of_row w1 _ 1 _ _ k2
      have r2 := cell_of_row w1 _ 2 _ _ _ k2
      have e2 := frozen_of_row w1 _ 2 _ _ k2
      have r3 := cell_of_row w1 _ 3 _ _ _ k2
      have e3 := frozen_of_row w1 _ 3 _ _ k2
      have r4 := cell_of_row w1 _ 4 _ _ _ k2
      have e4 := frozen_of_row w1 _ 4 _ _ k2
      have r5 := cell_of_row w1 _ 5 _ _ _ k2
      have e5 := frozen_of_row w1 _ 5 _ _ k2
      simp at q0 q1 q2 q3 r0 r1 r2 r3 r4 r5
      have HK := Lib.hid ((Below.heap_setCell w1 ⟨w.heap.size, 1, none⟩ (.int .i64 (x + 1)) (w.heap.size + 1) (by simp)).trans k2)
      clear hb k1 k2 C K1 K2
      go_wp2
      refine bodyPost_ret (results_cell_row rfl _ _ (w.heap.size + 1) _ _ (0, 0) _ rfl (blk6_set HK.out _ _ _ _ _ _) Tryz.underlying163 rfl (by kernel_rfl)) rfl ⟨?_, below6 (HB.out.setCell (p := ⟨w.heap.size, 1, none⟩) (Nat.le_refl _) _) (by omega) _ _ _ _ _ _⟩
      rw [show use2 u x g d true = (0, u, x + 1, g, d, false) by unfold use2; rw [if_neg (by rw [HV.out]; simp), if_pos rfl, if_neg (by omega)], rv_eq]

theorem specGiveTick_any (u x g d : Int) (w : World) :
    Calls Tryz.prog 153 #[.agg #[.int .i64 u, .int .i64 x, .int .i64 g, .int .i64 d]] w fun e w' => e = .returned (rv2 (give2 u x g d)) ∧ Below w.heap.size w w' := by
  have B2 : Hid (Below w.heap.size w ((w.alloc (.cells #[.int .i64 u, .int .i64 x, .int .i64 g, .int .i64 d] 68)).alloc (.cells #[.int .i64 0, .int .i64 0, .int .i64 0, .int .i64 0, .int .i64 0, .bool false] 163))) := (below_new w _).alloc (by simp) _
  have K1 : Hid (((w.alloc (.cells #[.int .i64 u, .int .i64 x, .int .i64 g, .int .i64 d] 68)).alloc (.cells #[.int .i64 0, .int .i64 0, .int .i64 0, .int .i64 0, .int .i64 0, .bool false] 163)).heap[w.heap.size]? = some (.cells #[.int .i64 u, .int .i64 x, .int .i64 g, .int .i64 d] 68 (0, 0))) := heap_alloc2_old w _ _
  have K2 : Hid (((w.alloc (.cells #[.int .i64 u, .int .i64 x, .int .i64 g, .int .i64 d] 68)).alloc (.cells #[.int .i64 0, .int .i64 0, .int .i64 0, .int .i64 0, .int .i64 0, .bool false] 163)).heap[w.heap.size + 1]? = some (.cells #[.int .i64 0, .int .i64 0, .int .i64 0, .int .i64 0, .int .i64 0, .bool false] 163 (0, 0))) := heap_alloc2_new w _ _
  have C := Lib.hid (specAccountFault_any u x g d ((w.alloc (.cells #[.int .i64 u, .int .i64 x, .int .i64 g, .int .i64 d] 68)).alloc (.cells #[.int .i64 0, .int .i64 0, .int .i64 0, .int .i64 0, .int .i64 0, .bool false] 163)))
  by_cases hv : af u x g d = 0
  case neg =>
    have hv' : (af u x g d != 0) = true := by simp [hv]
    have HV := Lib.hid hv
    clear hv
    go_enter Tryz.func153, Tryz.ntmps153
    go_wp2_with fail
    refine C.out.mono ?_
    rintro e w1 ⟨rfl, hb⟩
    have k1 := (hb.block w.heap.size (by simp; omega)).trans K1.out
    have k2 := (hb.block (w.heap.size + 1) (by simp)).trans K2.out
    have HB := Lib.hid (B2.out.trans (hb.mono (by simp; omega)))
    have q0 := cell_of_row w1 _ 0 _ _ _ k1
    have f0 := frozen_of_row w1 _ 0 _ _ k1
    have q1 := cell_of_row w1 _ 1 _ _ _ k1
    have f1 := frozen_of_row w1 _ 1 _ _ k1
    have q2 := cell_of_row w1 _ 2 _ _ _ k1
    have f2 := frozen_of_row w1 _ 2 _ _ k1
    have q3 := cell_of_row w1 _ 3 _ _ _ k1
    have f3 := frozen_of_row w1 _ 3 _ _ k1
    have r0 := cell_of_row w1 _ 0 _ _ _ k2
    have e0 := frozen_of_row w1 _ 0 _ _ k2
    have r1 := cell_of_row w1 _ 1 _ _ _ k2
    have e1 := frozen_of_row w1 _ 1 _ _ k2
    have r2 := cell_of_row w1 _ 2 _ _ _ k2
    have e2 := frozen_of_row w1 _ 2 _ _ k2
    have r3 := cell_of_row w1 _ 3 _ _ _ k2
    have e3 := frozen_of_row w1 _ 3 _ _ k2
    have r4 := cell_of_row w1 _ 4 _ _ _ k2
    have e4 := frozen_of_row w1 _ 4 _ _ k2
    have r5 := cell_of_row w1 _ 5 _ _ _ k2
    have e5 := frozen_of_row w1 _ 5 _ _ k2
    simp at q0 q1 q2 q3 r0 r1 r2 r3 r4 r5
    have HK := Lib.hid k2
    clear hb k1 k2 C K1 K2
    go_wp2
    refine bodyPost_ret (results_cell_row rfl _ _ (w.heap.size + 1) _ _ (0, 0) _ rfl (blk6_set HK.out _ _ _ _ _ _) Tryz.underlying163 rfl (by kernel_rfl)) rfl ⟨?_, below6 HB.out (by omega) _ _ _ _ _ _⟩
    rw [show give2 u x g d = (af u x g d, 0, 0, 0, 0, false) by unfold give2; rw [if_pos HV.out], rv_eq]
  have hv' : (af u x g d != 0) = false := by simp [hv]
  obtain ⟨⟨u0, u1⟩, ⟨x0, x1⟩, ⟨g0, g1⟩, ⟨d0, d1⟩⟩ := af_zero hv
  have HV := Lib.hid hv
  clear hv
  by_cases hq : 1000000 ≤ g
  · go_enter Tryz.func153, Tryz.ntmps153
    go_wp2_with fail
    refine C.out.mono ?_
    rintro e w1 ⟨rfl, hb⟩
    have k1 := (hb.block w.heap.size (by simp; omega)).trans K1.out
    have k2 := (hb.block (w.heap.size + 1) (by simp)).trans K2.out
    have HB := Lib.hid (B2.out.trans (hb.mono (by simp; omega)))
    have q0 := cell_of_row w1 _ 0 _ _ _ k1
    have f0 := frozen_of_row w1 _ 0 _ _ k1
    have q1 := cell_of_row w1 _ 1 _ _ _ k1
    have f1 := frozen_of_row w1 _ 1 _ _ k1
    have q2 := cell_of_row w1 _ 2 _ _ _ k1
    have f2 := frozen_of_row w1 _ 2 _ _ k1
    have q3 := cell_of_row w1 _ 3 _ _ _ k1
    have f3 := frozen_of_row w1 _ 3 _ _ k1
    have r0 := cell_of_row w1 _ 0 _ _ _ k2
    have e0 := frozen_of_row w1 _ 0 _ _ k2
    have r1 := cell_of_row w1 _ 1 _ _ _ k2
    have e1 := frozen_of_row w1 _ 1 _ _ k2
    have r2 := cell_of_row w1 _ 2 _ _ _ k2
    have e2 := frozen_of_row w1 _ 2 _ _ k2
    have r3 := cell_of_row w1 _ 3 _ _ _ k2
    have e3 := frozen_of_row w1 _ 3 _ _ k2
    have r4 := cell_of_row w1 _ 4 _ _ _ k2
    have e4 := frozen_of_row w1 _ 4 _ _ k2
    have r5 := cell_of_row w1 _ 5 _ _ _ k2
    have e5 := frozen_of_row w1 _ 5 _ _ k2
    simp at q0 q1 q2 q3 r0 r1 r2 r3 r4 r5
    have HK := Lib.hid k2
    clear hb k1 k2 C K1 K2
    go_wp2
    refine bodyPost_ret (results_cell_row rfl _ _ (w.heap.size + 1) _ _ (0, 0) _ rfl (blk6_set HK.out _ _ _ _ _ _) Tryz.underlying163 rfl (by kernel_rfl)) rfl ⟨?_, below6 HB.out (by omega) _ _ _ _ _ _⟩
    rw [show give2 u x g d = (8, 0, 0, 0, 0, false) by unfold give2; rw [if_neg (by rw [HV.out]; simp), if_pos hq], rv_eq]
  · go_enter Tryz.func153, Tryz.ntmps153
    go_wp2_with fail
    refine C.out.mono ?_
    rintro e w1 ⟨rfl, hb⟩
    have k1 := (hb.block w.heap.size (by simp; omega)).trans K1.out
    have k2 := (hb.block (w.heap.size + 1) (by simp)).trans K2.out
    have HB := Lib.hid (B2.out.trans (hb.mono (by simp; omega)))
    have q0 := cell_of_row w1 _ 0 _ _ _ k1
    have f0 := frozen_of_row w1 _ 0 _ _ k1
    have q1 := cell_of_row w1 _ 1 _ _ _ k1
    have f1 := frozen_of_row w1 _ 1 _ _ k1
    have q2 := cell_of_row w1 _ 2 _ _ _ k1
    have f2 := frozen_of_row w1 _ 2 _ _ k1
    have q3 := cell_of_row w1 _ 3 _ _ _ k1
    have f3 := frozen_of_row w1 _ 3 _ _ k1
    have r0 := cell_of_row w1 _ 0 _ _ _ k2
    have e0 := frozen_of_row w1 _ 0 _ _ k2
    have r1 := cell_of_row w1 _ 1 _ _ _ k2
    have e1 := frozen_of_row w1 _ 1 _ _ k2
    have r2 := cell_of_row w1 _ 2 _ _ _ k2
    have e2 := frozen_of_row w1 _ 2 _ _ k2
    have r3 := cell_of_row w1 _ 3 _ _ _ k2
    have e3 := frozen_of_row w1 _ 3 _ _ k2
    have r4 := cell_of_row w1 _ 4 _ _ _ k2
    have e4 := frozen_of_row w1 _ 4 _ _ k2
    have r5 := cell_of_row w1 _ 5 _ _ _ k2
    have e5 := frozen_of_row w1 _ 5 _ _ k2
    simp at q0 q1 q2 q3 r0 r1 r2 r3 r4 r5
    have HK := Lib.hid ((Below.heap_setCell w1 ⟨w.heap.size, 2, none⟩ (.int .i64 (g + 1)) (w.heap.size + 1) (by simp)).trans k2)
    clear hb k1 k2 C K1 K2
    go_wp2
    refine bodyPost_ret (results_cell_row rfl _ _ (w.heap.size + 1) _ _ (0, 0) _ rfl (blk6_set HK.out _ _ _ _ _ _) Tryz.underlying163 rfl (by kernel_rfl)) rfl ⟨?_, below6 (HB.out.setCell (p := ⟨w.heap.size, 2, none⟩) (Nat.le_refl _) _) (by omega) _ _ _ _ _ _⟩
    rw [show give2 u x g d = (0, u, x, g + 1, d, false) by unfold give2; rw [if_neg (by rw [HV.out]; simp), if_neg (by omega)], rv_eq]

theorem specPunishAccount_any (u x g d : Int) (w : World) :
    Calls Tryz.prog 119 #[.agg #[.int .i64 u, .int .i64 x, .int .i64 g, .int .i64 d]] w fun e w' => e = .returned (rv2 (pun2 u x g d)) ∧ Below w.heap.size w w' := by
  have B2 : Hid (Below w.heap.size w ((w.alloc (.cells #[.int .i64 u, .int .i64 x, .int .i64 g, .int .i64 d] 68)).alloc (.cells #[.int .i64 0, .int .i64 0, .int .i64 0, .int .i64 0, .int .i64 0, .bool false] 163))) := (below_new w _).alloc (by simp) _
  have K1 : Hid (((w.alloc (.cells #[.int .i64 u, .int .i64 x, .int .i64 g, .int .i64 d] 68)).alloc (.cells #[.int .i64 0, .int .i64 0, .int .i64 0, .int .i64 0, .int .i64 0, .bool false] 163)).heap[w.heap.size]? = some (.cells #[.int .i64 u, .int .i64 x, .int .i64 g, .int .i64 d] 68 (0, 0))) := heap_alloc2_old w _ _
  have K2 : Hid (((w.alloc (.cells #[.int .i64 u, .int .i64 x, .int .i64 g, .int .i64 d] 68)).alloc (.cells #[.int .i64 0, .int .i64 0, .int .i64 0, .int .i64 0, .int .i64 0, .bool false] 163)).heap[w.heap.size + 1]? = some (.cells #[.int .i64 0, .int .i64 0, .int .i64 0, .int .i64 0, .int .i64 0, .bool false] 163 (0, 0))) := heap_alloc2_new w _ _
  have C := Lib.hid (specAccountFault_any u x g d ((w.alloc (.cells #[.int .i64 u, .int .i64 x, .int .i64 g, .int .i64 d] 68)).alloc (.cells #[.int .i64 0, .int .i64 0, .int .i64 0, .int .i64 0, .int .i64 0, .bool false] 163)))
  by_cases hv : af u x g d = 0
  case neg =>
    have hv' : (af u x g d != 0) = true := by simp [hv]
    have HV := Lib.hid hv
    clear hv
    go_enter Tryz.func119, Tryz.ntmps119
    go_wp2_with fail
    refine C.out.mono ?_
    rintro e w1 ⟨rfl, hb⟩
    have k1 := (hb.block w.heap.size (by simp; omega)).trans K1.out
    have k2 := (hb.block (w.heap.size + 1) (by simp)).trans K2.out
    have HB := Lib.hid (B2.out.trans (hb.mono (by simp; omega)))
    have q0 := cell_of_row w1 _ 0 _ _ _ k1
    have f0 := frozen_of_row w1 _ 0 _ _ k1
    have q1 := cell_of_row w1 _ 1 _ _ _ k1
    have f1 := frozen_of_row w1 _ 1 _ _ k1
    have q2 := cell_of_row w1 _ 2 _ _ _ k1
    have f2 := frozen_of_row w1 _ 2 _ _ k1
    have q3 := cell_of_row w1 _ 3 _ _ _ k1
    have f3 := frozen_of_row w1 _ 3 _ _ k1
    have r0 := cell_of_row w1 _ 0 _ _ _ k2
    have e0 := frozen_of_row w1 _ 0 _ _ k2
    have r1 := cell_of_row w1 _ 1 _ _ _ k2
    have e1 := frozen_of_row w1 _ 1 _ _ k2
    have r2 := cell_of_row w1 _ 2 _ _ _ k2
    have e2 := frozen_of_row w1 _ 2 _ _ k2
    have r3 := cell_of_row w1 _ 3 _ _ _ k2
    have e3 := frozen_of_row w1 _ 3 _ _ k2
    have r4 := cell_of_row w1 _ 4 _ _ _ k2
    have e4 := frozen_of_row w1 _ 4 _ _ k2
    have r5 := cell_of_row w1 _ 5 _ _ _ k2
    have e5 := frozen_of_row w1 _ 5 _ _ k2
    simp at q0 q1 q2 q3 r0 r1 r2 r3 r4 r5
    have HK := Lib.hid k2
    clear hb k1 k2 C K1 K2
    go_wp2
    refine bodyPost_ret (results_cell_row rfl _ _ (w.heap.size + 1) _ _ (0, 0) _ rfl (blk6_set HK.out _ _ _ _ _ _) Tryz.underlying163 rfl (by kernel_rfl)) rfl ⟨?_, below6 HB.out (by omega) _ _ _ _ _ _⟩
    rw [show pun2 u x g d = (af u x g d, 0, 0, 0, 0, false) by unfold pun2; rw [if_pos HV.out], rv_eq]
  have hv' : (af u x g d != 0) = false := by simp [hv]
  obtain ⟨⟨u0, u1⟩, ⟨x0, x1⟩, ⟨g0, g1⟩, ⟨d0, d1⟩⟩ := af_zero hv
  have HV := Lib.hid hv
  clear hv
  by_cases hq : 3 ≤ d
  · go_enter Tryz.func119, Tryz.ntmps119
    go_wp2_with fail
    refine C.out.mono ?_
    rintro e w1 ⟨rfl, hb⟩
    have k1 := (hb.block w.heap.size (by simp; omega)).trans K1.out
    have k2 := (hb.block (w.heap.size + 1) (by simp)).trans K2.out
    have HB := Lib.hid (B2.out.trans (hb.mono (by simp; omega)))
    have q0 := cell_of_row w1 _ 0 _ _ _ k1
    have f0 := frozen_of_row w1 _ 0 _ _ k1
    have q1 := cell_of_row w1 _ 1 _ _ _ k1
    have f1 := frozen_of_row w1 _ 1 _ _ k1
    have q2 := cell_of_row w1 _ 2 _ _ _ k1
    have f2 := frozen_of_row w1 _ 2 _ _ k1
    have q3 := cell_of_row w1 _ 3 _ _ _ k1
    have f3 := frozen_of_row w1 _ 3 _ _ k1
    have r0 := cell_of_row w1 _ 0 _ _ _ k2
    have e0 := frozen_of_row w1 _ 0 _ _ k2
    have r1 := cell_of_row w1 _ 1 _ _ _ k2
    have e1 := frozen_of_row w1 _ 1 _ _ k2
    have r2 := cell_of_row w1 _ 2 _ _ _ k2
    have e2 := frozen_of_row w1 _ 2 _ _ k2
    have r3 := cell_of_row w1 _ 3 _ _ _ k2
    have e3 := frozen_of_row w1 _ 3 _ _ k2
    have r4 := cell_of_row w1 _ 4 _ _ _ k2
    have e4 := frozen_of_row w1 _ 4 _ _ k2
    have r5 := cell_of_row w1 _ 5 _ _ _ k2
    have e5 := frozen_of_row w1 _ 5 _ _ k2
    simp at q0 q1 q2 q3 r0 r1 r2 r3 r4 r5
    have HK := Lib.hid k2
    clear hb k1 k2 C K1 K2
    go_wp2
    refine bodyPost_ret (results_cell_row rfl _ _ (w.heap.size + 1) _ _ (0, 0) _ rfl (blk6_set HK.out _ _ _ _ _ _) Tryz.underlying163 rfl (by kernel_rfl)) rfl ⟨?_, below6 HB.out (by omega) _ _ _ _ _ _⟩
    rw [show pun2 u x g d = (0, u, x, g, d, true) by unfold pun2; rw [if_neg (by rw [HV.out]; simp), if_pos hq], rv_eq]
  · go_enter Tryz.func119, Tryz.ntmps119
    go_wp2_with fail
    refine C.out.mono ?_
    rintro e w1 ⟨rfl, hb⟩
    have k1 := (hb.block w.heap.size (by simp; omega)).trans K1.out
    have k2 := (hb.block (w.heap.size + 1) (by simp)).trans K2.out
    have HB := Lib.hid (B2.out.trans (hb.mono (by simp; omega)))
    have q0 := cell_of_row w1 _ 0 _ _ _ k1
    have f0 := frozen_of_row w1 _ 0 _ _ k1
    have q1 := cell_of_row w1 _ 1 _ _ _ k1
    have f1 := frozen_of_row w1 _ 1 _ _ k1
    have q2 := cell_of_row w1 _ 2 _ _ _ k1
    have f2 := frozen_of_row w1 _ 2 _ _ k1
    have q3 := cell_of_row w1 _ 3 _ _ _ k1
    have f3 := frozen_of_row w1 _ 3 _ _ k1
    have r0 := cell_of_row w1 _ 0 _ _ _ k2
    have e0 := frozen_of_row w1 _ 0 _ _ k2
    have r1 := cell_of_row w1 _ 1 _ _ _ k2
    have e1 := frozen_of_row w1 _ 1 _ _ k2
    have r2 := cell_of_row w1 _ 2 _ _ _ k2
    have e2 := frozen_of_row w1 _ 2 _ _ k2
    have r3 := cell_of_row w1 _ 3 _ _ _ k2
    have e3 := frozen_of_row w1 _ 3 _ _ k2
    have r4 := cell_of_row w1 _ 4 _ _ _ k2
    have e4 := frozen_of_row w1 _ 4 _ _ k2
    have r5 := cell_of_row w1 _ 5 _ _ _ k2
    have e5 := frozen_of_row w1 _ 5 _ _ k2
    simp at q0 q1 q2 q3 r0 r1 r2 r3 r4 r5
    have HK := Lib.hid ((Below.heap_setCell w1 ⟨w.heap.size, 3, none⟩ (.int .i64 (d + 1)) (w.heap.size + 1) (by simp)).trans k2)
    clear hb k1 k2 C K1 K2
    go_wp2
    refine bodyPost_ret (results_cell_row rfl _ _ (w.heap.size + 1) _ _ (0, 0) _ rfl (blk6_set HK.out _ _ _ _ _ _) Tryz.underlying163 rfl (by kernel_rfl)) rfl ⟨?_, below6 (HB.out.setCell (p := ⟨w.heap.size, 3, none⟩) (Nat.le_refl _) _) (by omega) _ _ _ _ _ _⟩
    rw [show pun2 u x g d = (0, u, x, g, d + 1, false) by unfold pun2; rw [if_neg (by rw [HV.out]; simp), if_neg (by omega)], rv_eq]

theorem specSkipAccount_any (u x g d : Int) (w : World) :
    Calls Tryz.prog 152 #[.agg #[.int .i64 u, .int .i64 x, .int .i64 g, .int .i64 d]] w fun e w' => e = .returned (rv2 (skip2 u x g d)) ∧ Below w.heap.size w w' := by
  have B2 : Hid (Below w.heap.size w ((w.alloc (.cells #[.int .i64 u, .int .i64 x, .int .i64 g, .int .i64 d] 68)).alloc (.cells #[.int .i64 0, .int .i64 0, .int .i64 0, .int .i64 0, .int .i64 0, .bool false] 163))) := (below_new w _).alloc (by simp) _
  have K1 : Hid (((w.alloc (.cells #[.int .i64 u, .int .i64 x, .int .i64 g, .int .i64 d] 68)).alloc (.cells #[.int .i64 0, .int .i64 0, .int .i64 0, .int .i64 0, .int .i64 0, .bool false] 163)).heap[w.heap.size]? = some (.cells #[.int .i64 u, .int .i64 x, .int .i64 g, .int .i64 d] 68 (0, 0))) := heap_alloc2_old w _ _
  have K2 : Hid (((w.alloc (.cells #[.int .i64 u, .int .i64 x, .int .i64 g, .int .i64 d] 68)).alloc (.cells #[.int .i64 0, .int .i64 0, .int .i64 0, .int .i64 0, .int .i64 0, .bool false] 163)).heap[w.heap.size + 1]? = some (.cells #[.int .i64 0, .int .i64 0, .int .i64 0, .int .i64 0, .int .i64 0, .bool false] 163 (0, 0))) := heap_alloc2_new w _ _
  have C := Lib.hid (specAccountFault_any u x g d ((w.alloc (.cells #[.int .i64 u, .int .i64 x, .int .i64 g, .int .i64 d] 68)).alloc (.cells #[.int .i64 0, .int .i64 0, .int .i64 0, .int .i64 0, .int .i64 0, .bool false] 163)))
  by_cases hv : af u x g d = 0
  case neg =>
    have hv' : (af u x g d != 0) = true := by simp [hv]
    have HV := Lib.hid hv
    clear hv
    go_enter Tryz.func152, Tryz.ntmps152
    go_wp2_with fail
    refine C.out.mono ?_
    rintro e w1 ⟨rfl, hb⟩
    have k1 := (hb.block w.heap.size (by simp; omega)).trans K1.out
    have k2 := (hb.block (w.heap.size + 1) (by simp)).trans K2.out
    have HB := Lib.hid (B2.out.trans (hb.mono (by simp; omega)))
    have q0 := cell_of_row w1 _ 0 _ _ _ k1
    have f0 := frozen_of_row w1 _ 0 _ _ k1
    have q1 := cell_of_row w1 _ 1 _ _ _ k1
    have f1 := frozen_of_row w1 _ 1 _ _ k1
    have q2 := cell_of_row w1 _ 2 _ _ _ k1
    have f2 := frozen_of_row w1 _ 2 _ _ k1
    have q3 := cell_of_row w1 _ 3 _ _ _ k1
    have f3 := frozen_of_row w1 _ 3 _ _ k1
    have r0 := cell_of_row w1 _ 0 _ _ _ k2
    have e0 := frozen_of_row w1 _ 0 _ _ k2
    have r1 := cell_of_row w1 _ 1 _ _ _ k2
    have e1 := frozen_of_row w1 _ 1 _ _ k2
    have r2 := cell_of_row w1 _ 2 _ _ _ k2
    have e2 := frozen_of_row w1 _ 2 _ _ k2
    have r3 := cell_of_row w1 _ 3 _ _ _ k2
    have e3 := frozen_of_row w1 _ 3 _ _ k2
    have r4 := cell_of_row w1 _ 4 _ _ _ k2
    have e4 := frozen_of_row w1 _ 4 _ _ k2
    have r5 := cell_of_row w1 _ 5 _ _ _ k2
    have e5 := frozen_of_row w1 _ 5 _ _ k2
    simp at q0 q1 q2 q3 r0 r1 r2 r3 r4 r5
    have HK := Lib.hid k2
    clear hb k1 k2 C K1 K2
    go_wp2
    refine bodyPost_ret (results_cell_row rfl _ _ (w.heap.size + 1) _ _ (0, 0) _ rfl (blk6_set HK.out _ _ _ _ _ _) Tryz.underlying163 rfl (by kernel_rfl)) rfl ⟨?_, below6 HB.out (by omega) _ _ _ _ _ _⟩
    rw [show skip2 u x g d = (af u x g d, 0, 0, 0, 0, false) by unfold skip2; rw [if_pos HV.out], rv_eq]
  have hv' : (af u x g d != 0) = false := by simp [hv]
  obtain ⟨⟨u0, u1⟩, ⟨x0, x1⟩, ⟨g0, g1⟩, ⟨d0, d1⟩⟩ := af_zero hv
  have HV := Lib.hid hv
  clear hv
  by_cases hq : d = 0
  · have hqb : (d == 0) = true := by simp [hq]
    have HQ := Lib.hid hq
    clear hq
    go_enter Tryz.func152, Tryz.ntmps152
    go_wp2_with fail
    refine C.out.mono ?_
    rintro e w1 ⟨rfl, hb⟩
    have k1 := (hb.block w.heap.size (by simp; omega)).trans K1.out
    have k2 := (hb.block (w.heap.size + 1) (by simp)).trans K2.out
    have HB := Lib.hid (B2.out.trans (hb.mono (by simp; omega)))
    have q0 := cell_of_row w1 _ 0 _ _ _ k1
    have f0 := frozen_of_row w1 _ 0 _ _ k1
    have q1 := cell_of_row w1 _ 1 _ _ _ k1
    have f1 := frozen_of_row w1 _ 1 _ _ k1
    have q2 := cell_of_row w1 _ 2 _ _ _ k1
    have f2 := frozen_of_row w1 _ 2 _ _ k1
    have q3 := cell_of_row w1 _ 3 _ _ _ k1
    have f3 := frozen_of_row w1 _ 3 _ _ k1
    have r0 := cell_of_row w1 _ 0 _ _ _ k2
    have e0 := frozen_of_row w1 _ 0 _ _ k2
    have r1 := cell_of_row w1 _ 1 _ _ _ k2
    have e1 := frozen_of_row w1 _ 1 _ _ k2
    have r2 := cell_of_row w1 _ 2 _ _ _ k2
    have e2 := frozen_of_row w1 _ 2 _ _ k2
    have r3 := cell_of_row w1 _ 3 _ _ _ k2
    have e3 := frozen_of_row w1 _ 3 _ _ k2
    have r4 := cell_of_row w1 _ 4 _ _ _ k2
    have e4 := frozen_of_row w1 _ 4 _ _ k2
    have r5 := cell_of_row w1 _ 5 _ _ _ k2
    have e5 := frozen_of_row w1 _ 5 _ _ k2
    simp at q0 q1 q2 q3 r0 r1 r2 r3 r4 r5
    have HK := Lib.hid k2
    clear hb k1 k2 C K1 K2
    go_wp2
    refine bodyPost_ret (results_cell_row rfl _ _ (w.heap.size + 1) _ _ (0, 0) _ rfl (blk6_set HK.out _ _ _ _ _ _) Tryz.underlying163 rfl (by kernel_rfl)) rfl ⟨?_, below6 HB.out (by omega) _ _ _ _ _ _⟩
    rw [show skip2 u x g d = (4, 0, 0, 0, 0, false) by unfold skip2; rw [if_neg (by rw [HV.out]; simp), if_pos HQ.out], rv_eq]
  · have hqb : (d == 0) = false := by simp [hq]
    have HQ := Lib.hid hq
    clear hq
    go_enter Tryz.func152, Tryz.ntmps152
    go_wp2_with fail
    refine C.out.mono ?_
    rintro e w1 ⟨rfl, hb⟩
    have k1 := (hb.block w.heap.size (by simp; omega)).trans K1.out
    have k2 := (hb.block (w.heap.size + 1) (by simp)).trans K2.out
    have HB := Lib.hid (B2.out.trans (hb.mono (by simp; omega)))
    have q0 := cell_of_row w1 _ 0 _ _ _ k1
    have f0 := frozen_of_row w1 _ 0 _ _ k1
    have q1 := cell_of_row w1 _ 1 _ _ _ k1
    have f1 := frozen_of_row w1 _ 1 _ _ k1
    have q2 := cell_of_row w1 _ 2 _ _ _ k1
    have f2 := frozen_of_row w1 _ 2 _ _ k1
    have q3 := cell_of_row w1 _ 3 _ _ _ k1
    have f3 := frozen_of_row w1 _ 3 _ _ k1
    have r0 := cell_of_row w1 _ 0 _ _ _ k2
    have e0 := frozen_of_row w1 _ 0 _ _ k2
    have r1 := cell_of_row w1 _ 1 _ _ _ k2
    have e1 := frozen_of_row w1 _ 1 _ _ k2
    have r2 := cell_of_row w1 _ 2 _ _ _ k2
    have e2 := frozen_of_row w1 _ 2 _ _ k2
    have r3 := cell_of_row w1 _ 3 _ _ _ k2
    have e3 := frozen_of_row w1 _ 3 _ _ k2
    have r4 := cell_of_row w1 _ 4 _ _ _ k2
    have e4 := frozen_of_row w1 _ 4 _ _ k2
    have r5 := cell_of_row w1 _ 5 _ _ _ k2
    have e5 := frozen_of_row w1 _ 5 _ _ k2
    simp at q0 q1 q2 q3 r0 r1 r2 r3 r4 r5
    have HK := Lib.hid ((Below.heap_setCell w1 ⟨w.heap.size, 3, none⟩ (.int .i64 (d - 1)) (w.heap.size + 1) (by simp)).trans k2)
    clear hb k1 k2 C K1 K2
    go_wp2
    refine bodyPost_ret (results_cell_row rfl _ _ (w.heap.size + 1) _ _ (0, 0) _ rfl (blk6_set HK.out _ _ _ _ _ _) Tryz.underlying163 rfl (by kernel_rfl)) rfl ⟨?_, below6 (HB.out.setCell (p := ⟨w.heap.size, 3, none⟩) (Nat.le_refl _) _) (by omega) _ _ _ _ _ _⟩
    rw [show skip2 u x g d = (0, u, x, g, d - 1, false) by unfold skip2; rw [if_neg (by rw [HV.out]; simp), if_neg HQ.out], rv_eq]

end Go.Proofs.YtckapndpefkcgaaGreat
