/-
  The program's functions of chapter 2: what each answers, for every account: the same plain functions as the model's. No conditions.
-/
import Derived.Test.YteigjjgekkcfkaaImplAcc2b
namespace Go.Proofs.Yteigjjgekkcfkaa
open Go.RowKit

theorem led_cells {W1 : World} {s : Nat} {u x g d : Int} {t : TypeId} (hk : W1.heap[s]? = some (.cells #[.int .i64 u, .int .i64 1000000, .int .i64 x, .int .i64 1000000, .int .i64 g, .int .i64 1000000, .int .i64 d, .int .i64 3] t (0, 0))) : ∀ W, Below (s + 1) W1 W → (W.cell? ⟨s, 0, none⟩ = some (.int .i64 u) ∧ W.cell? ⟨s, 1, none⟩ = some (.int .i64 1000000) ∧ W.cell? ⟨s, 2, none⟩ = some (.int .i64 x) ∧ W.cell? ⟨s, 3, none⟩ = some (.int .i64 1000000) ∧ W.cell? ⟨s, 4, none⟩ = some (.int .i64 g) ∧ W.cell? ⟨s, 5, none⟩ = some (.int .i64 1000000) ∧ W.cell? ⟨s, 6, none⟩ = some (.int .i64 d) ∧ W.cell? ⟨s, 7, none⟩ = some (.int .i64 3)) := fun W hB => ⟨cell_of_row W s 0 _ _ _ ((hB.block s (by omega)).trans hk), cell_of_row W s 1 _ _ _ ((hB.block s (by omega)).trans hk), cell_of_row W s 2 _ _ _ ((hB.block s (by omega)).trans hk), cell_of_row W s 3 _ _ _ ((hB.block s (by omega)).trans hk), cell_of_row W s 4 _ _ _ ((hB.block s (by omega)).trans hk), cell_of_row W s 5 _ _ _ ((hB.block s (by omega)).trans hk), cell_of_row W s 6 _ _ _ ((hB.block s (by omega)).trans hk), cell_of_row W s 7 _ _ _ ((hB.block s (by omega)).trans hk)⟩

theorem implAccountFault_any (u x g d : Int) (w : World) :
    Calls Try.prog 42 #[.agg #[.int .i64 u, .int .i64 x, .int .i64 g, .int .i64 d]] w fun e w' => e = .returned (.int .i64 (af u x g d)) ∧ Below w.heap.size w w' := by
  have B1 := Lib.hid (below_new w (.cells #[.int .i64 u, .int .i64 x, .int .i64 g, .int .i64 d] 68))
  have FIN : ∀ (b0 b1 b2 b3 : Bool), inR 0 1000000 u = b0 → inR 0 1000000 x = b1 → inR 0 1000000 g = b2 → inR 0 3 d = b3 → Calls Try.prog 42 #[.agg #[.int .i64 u, .int .i64 x, .int .i64 g, .int .i64 d]] w fun e w' => e = .returned (.int .i64 (if b0 && b1 && b2 && b3 then 0 else 3)) ∧ Below w.heap.size w w' := by
    intro b0 b1 b2 b3 i0 i1 i2 i3
    have CA := fits_any u 1000000; have CB := fits_any x 1000000; have CC := fits_any g 1000000; have CD := fits_any d 3
    rw [i0] at CA; rw [i1] at CB; rw [i2] at CC; rw [i3] at CD
    clear i0 i1 i2 i3
    have HA := Lib.hid CA; have HB := Lib.hid CB; have HC := Lib.hid CC; have HD := Lib.hid CD
    clear CA CB CC CD
    rcases b0 with _ | _
    · go_enter Try.func42, Try.ntmps42
      go_wp2_with fail
      refine (ledgerOf_any u x g d _).mono ?_
      rintro e w1 ⟨rfl, hb⟩
      have hs : w.heap.size < w1.heap.size := by have := hb.size; simp at this; omega
      have BL := Lib.hid ((B1.out.trans (hb.mono (by simp))).alloc (by omega) (.cells #[.int .i64 u, .int .i64 1000000, .int .i64 x, .int .i64 1000000, .int .i64 g, .int .i64 1000000, .int .i64 d, .int .i64 3] 122))
      have KC := Lib.hid (led_cells (heap_alloc_new w1 (.cells #[.int .i64 u, .int .i64 1000000, .int .i64 x, .int .i64 1000000, .int .i64 g, .int .i64 1000000, .int .i64 d, .int .i64 3] 122)))
      have R := Lib.hid (Below.refl (w1.heap.size + 1) (w1.alloc (.cells #[.int .i64 u, .int .i64 1000000, .int .i64 x, .int .i64 1000000, .int .i64 g, .int .i64 1000000, .int .i64 d, .int .i64 3] 122)))
      clear hb
      go_wp2_with fail
      refine (HA.out _).mono ?_
      rintro e wnHA ⟨rfl, hb⟩
      have R := Lib.hid (R.out.trans (hb.mono (by have := R.out.size; first | (simp at this ⊢; omega) | simp | omega)))
      obtain ⟨q0, q1, q2, q3, q4, q5, q6, q7⟩ := KC.out _ R.out
      clear hb
      go_wp2
      go_ret
      exact ⟨rfl, BL.out.trans (R.out.mono (by omega))⟩
    · rcases b1 with _ | _
      · go_enter Try.func42, Try.ntmps42
        go_wp2_with fail
        refine (ledgerOf_any u x g d _).mono ?_
        rintro e w1 ⟨rfl, hb⟩
        have hs : w.heap.size < w1.heap.size := by have := hb.size; simp at this; omega
        have BL := Lib.hid ((B1.out.trans (hb.mono (by simp))).alloc (by omega) (.cells #[.int .i64 u, .int .i64 1000000, .int .i64 x, .int .i64 1000000, .int .i64 g, .int .i64 1000000, .int .i64 d, .int .i64 3] 122))
        have KC := Lib.hid (led_cells (heap_alloc_new w1 (.cells #[.int .i64 u, .int .i64 1000000, .int .i64 x, .int .i64 1000000, .int .i64 g, .int .i64 1000000, .int .i64 d, .int .i64 3] 122)))
        have R := Lib.hid (Below.refl (w1.heap.size + 1) (w1.alloc (.cells #[.int .i64 u, .int .i64 1000000, .int .i64 x, .int .i64 1000000, .int .i64 g, .int .i64 1000000, .int .i64 d, .int .i64 3] 122)))
        clear hb
        go_wp2_with fail
        refine (HA.out _).mono ?_
        rintro e wnHA ⟨rfl, hb⟩
        have R := Lib.hid (R.out.trans (hb.mono (by have := R.out.size; first | (simp at this ⊢; omega) | simp | omega)))
        obtain ⟨q0, q1, q2, q3, q4, q5, q6, q7⟩ := KC.out _ R.out
        clear hb
        go_wp2_with fail
        refine (HB.out _).mono ?_
        rintro e wnHB ⟨rfl, hb⟩
        have R := Lib.hid (R.out.trans (hb.mono (by have := R.out.size; first | (simp at this ⊢; omega) | simp | omega)))
        obtain ⟨q0, q1, q2, q3, q4, q5, q6, q7⟩ := KC.out _ R.out
        clear hb
        go_wp2
        go_ret
        exact ⟨rfl, BL.out.trans (R.out.mono (by omega))⟩
      · rcases b2 with _ | _
        · go_enter Try.func42, Try.ntmps42
          go_wp2_with fail
          refine (ledgerOf_any u x g d _).mono ?_
          rintro e w1 ⟨rfl, hb⟩
          have hs : w.heap.size < w1.heap.size := by have := hb.size; simp at this; omega
          have BL := Lib.hid ((B1.out.trans (hb.mono (by simp))).alloc (by omega) (.cells #[.int .i64 u, .int .i64 1000000, .int .i64 x, .int .i64 1000000, .int .i64 g, .int .i64 1000000, .int .i64 d, .int .i64 3] 122))
          have KC := Lib.hid (led_cells (heap_alloc_new w1 (.cells #[.int .i64 u, .int .i64 1000000, .int .i64 x, .int .i64 1000000, .int .i64 g, .int .i64 1000000, .int .i64 d, .int .i64 3] 122)))
          have R := Lib.hid (Below.refl (w1.heap.size + 1) (w1.alloc (.cells #[.int .i64 u, .int .i64 1000000, .int .i64 x, .int .i64 1000000, .int .i64 g, .int .i64 1000000, .int .i64 d, .int .i64 3] 122)))
          clear hb
          go_wp2_with fail
          refine (HA.out _).mono ?_
          rintro e wnHA ⟨rfl, hb⟩
          have R := Lib.hid (R.out.trans (hb.mono (by have := R.out.size; first | (simp at this ⊢; omega) | simp | omega)))
          obtain ⟨q0, q1, q2, q3, q4, q5, q6, q7⟩ := KC.out _ R.out
          clear hb
          go_wp2_with fail
          refine (HB.out _).mono ?_
          rintro e wnHB ⟨rfl, hb⟩
          have R := Lib.hid (R.out.trans (hb.mono (by have := R.out.size; first | (simp at this ⊢; omega) | simp | omega)))
          obtain ⟨q0, q1, q2, q3, q4, q5, q6, q7⟩ := KC.out _ R.out
          clear hb
          go_wp2_with fail
          refine (HC.out _).mono ?_
          rintro e wnHC ⟨rfl, hb⟩
          have R := Lib.hid (R.out.trans (hb.mono (by have := R.out.size; first | (simp at this ⊢; omega) | simp | omega)))
          obtain ⟨q0, q1, q2, q3, q4, q5, q6, q7⟩ := KC.out _ R.out
          clear hb
          go_wp2
          go_ret
          exact ⟨rfl, BL.out.trans (R.out.mono (by omega))⟩
        · rcases b3 with _ | _
          · go_enter Try.func42, Try.ntmps42
            go_wp2_with fail
            refine (ledgerOf_any u x g d _).mono ?_
            rintro e w1 ⟨rfl, hb⟩
            have hs : w.heap.size < w1.heap.size := by have := hb.size; simp at this; omega
            have BL := Lib.hid ((B1.out.trans (hb.mono (by simp))).alloc (by omega) (.cells #[.int .i64 u, .int .i64 1000000, .int .i64 x, .int .i64 1000000, .int .i64 g, .int .i64 1000000, .int .i64 d, .int .i64 3] 122))
            have KC := Lib.hid (led_cells (heap_alloc_new w1 (.cells #[.int .i64 u, .int .i64 1000000, .int .i64 x, .int .i64 1000000, .int .i64 g, .int .i64 1000000, .int .i64 d, .int .i64 3] 122)))
            have R := Lib.hid (Below.refl (w1.heap.size + 1) (w1.alloc (.cells #[.int .i64 u, .int .i64 1000000, .int .i64 x, .int .i64 1000000, .int .i64 g, .int .i64 1000000, .int .i64 d, .int .i64 3] 122)))
            clear hb
            go_wp2_with fail
            refine (HA.out _).mono ?_
            rintro e wnHA ⟨rfl, hb⟩
            have R := Lib.hid (R.out.trans (hb.mono (by have := R.out.size; first | (simp at this ⊢; omega) | simp | omega)))
            obtain ⟨q0, q1, q2, q3, q4, q5, q6, q7⟩ := KC.out _ R.out
            clear hb
            go_wp2_with fail
            refine (HB.out _).mono ?_
            rintro e wnHB ⟨rfl, hb⟩
            have R := Lib.hid (R.out.trans (hb.mono (by have := R.out.size; first | (simp at this ⊢; omega) | simp | omega)))
            obtain ⟨q0, q1, q2, q3, q4, q5, q6, q7⟩ := KC.out _ R.out
            clear hb
            go_wp2_with fail
            refine (HC.out _).mono ?_
            rintro e wnHC ⟨rfl, hb⟩
            have R := Lib.hid (R.out.trans (hb.mono (by have := R.out.size; first | (simp at this ⊢; omega) | simp | omega)))
            obtain ⟨q0, q1, q2, q3, q4, q5, q6, q7⟩ := KC.out _ R.out
            clear hb
            go_wp2_with fail
            refine (HD.out _).mono ?_
            rintro e wnHD ⟨rfl, hb⟩
            have R := Lib.hid (R.out.trans (hb.mono (by have := R.out.size; first | (simp at this ⊢; omega) | simp | omega)))
            obtain ⟨q0, q1, q2, q3, q4, q5, q6, q7⟩ := KC.out _ R.out
            clear hb
            go_wp2
            go_ret
            exact ⟨rfl, BL.out.trans (R.out.mono (by omega))⟩
          · go_enter Try.func42, Try.ntmps42
            go_wp2_with fail
            refine (ledgerOf_any u x g d _).mono ?_
            rintro e w1 ⟨rfl, hb⟩
            have hs : w.heap.size < w1.heap.size := by have := hb.size; simp at this; omega
            have BL := Lib.hid ((B1.out.trans (hb.mono (by simp))).alloc (by omega) (.cells #[.int .i64 u, .int .i64 1000000, .int .i64 x, .int .i64 1000000, .int .i64 g, .int .i64 1000000, .int .i64 d, .int .i64 3] 122))
            have KC := Lib.hid (led_cells (heap_alloc_new w1 (.cells #[.int .i64 u, .int .i64 1000000, .int .i64 x, .int .i64 1000000, .int .i64 g, .int .i64 1000000, .int .i64 d, .int .i64 3] 122)))
            have R := Lib.hid (Below.refl (w1.heap.size + 1) (w1.alloc (.cells #[.int .i64 u, .int .i64 1000000, .int .i64 x, .int .i64 1000000, .int .i64 g, .int .i64 1000000, .int .i64 d, .int .i64 3] 122)))
            clear hb
            go_wp2_with fail
            refine (HA.out _).mono ?_
            rintro e wnHA ⟨rfl, hb⟩
            have R := Lib.hid (R.out.trans (hb.mono (by have := R.out.size; first | (simp at this ⊢; omega) | simp | omega)))
            obtain ⟨q0, q1, q2, q3, q4, q5, q6, q7⟩ := KC.out _ R.out
            clear hb
            go_wp2_with fail
            refine (HB.out _).mono ?_
            rintro e wnHB ⟨rfl, hb⟩
            have R := Lib.hid (R.out.trans (hb.mono (by have := R.out.size; first | (simp at this ⊢; omega) | simp | omega)))
            obtain ⟨q0, q1, q2, q3, q4, q5, q6, q7⟩ := KC.out _ R.out
            clear hb
            go_wp2_with fail
            refine (HC.out _).mono ?_
            rintro e wnHC ⟨rfl, hb⟩
            have R := Lib.hid (R.out.trans (hb.mono (by have := R.out.size; first | (simp at this ⊢; omega) | simp | omega)))
            obtain ⟨q0, q1, q2, q3, q4, q5, q6, q7⟩ := KC.out _ R.out
            clear hb
            go_wp2_with fail
            refine (HD.out _).mono ?_
            rintro e wnHD ⟨rfl, hb⟩
            have R := Lib.hid (R.out.trans (hb.mono (by have := R.out.size; first | (simp at this ⊢; omega) | simp | omega)))
            obtain ⟨q0, q1, q2, q3, q4, q5, q6, q7⟩ := KC.out _ R.out
            clear hb
            go_wp2
            go_ret
            exact ⟨rfl, BL.out.trans (R.out.mono (by omega))⟩
  have e : af u x g d = if inR 0 1000000 u && inR 0 1000000 x && inR 0 1000000 g && inR 0 3 d then 0 else 3 := by
    unfold af inR
    simp only [← Bool.decide_and, decide_eq_true_eq, and_assoc]
  rw [e]
  exact FIN _ _ _ _ rfl rfl rfl rfl

theorem implUseTick_any (u x g d : Int) (late : Bool) (w : World) :
    Calls Try.prog 128 #[.agg #[.int .i64 u, .int .i64 x, .int .i64 g, .int .i64 d], .bool late] w fun e w' => e = .returned (rv (use2 u x g d late)) ∧ Below w.heap.size w w' := by
  have B2 : Hid (Below w.heap.size w ((w.alloc (.cells #[.int .i64 u, .int .i64 x, .int .i64 g, .int .i64 d] 68)).alloc (.cells #[.int .i64 0, .int .i64 0, .int .i64 0, .int .i64 0, .int .i64 0, .bool false] 158))) := (below_new w _).alloc (by simp) _
  have K1 : Hid (((w.alloc (.cells #[.int .i64 u, .int .i64 x, .int .i64 g, .int .i64 d] 68)).alloc (.cells #[.int .i64 0, .int .i64 0, .int .i64 0, .int .i64 0, .int .i64 0, .bool false] 158)).heap[w.heap.size]? = some (.cells #[.int .i64 u, .int .i64 x, .int .i64 g, .int .i64 d] 68 (0, 0))) := heap_alloc2_old w _ _
  have K2 : Hid (((w.alloc (.cells #[.int .i64 u, .int .i64 x, .int .i64 g, .int .i64 d] 68)).alloc (.cells #[.int .i64 0, .int .i64 0, .int .i64 0, .int .i64 0, .int .i64 0, .bool false] 158)).heap[w.heap.size + 1]? = some (.cells #[.int .i64 0, .int .i64 0, .int .i64 0, .int .i64 0, .int .i64 0, .bool false] 158 (0, 0))) := heap_alloc2_new w _ _
  have C := Lib.hid (implAccountFault_any u x g d ((w.alloc (.cells #[.int .i64 u, .int .i64 x, .int .i64 g, .int .i64 d] 68)).alloc (.cells #[.int .i64 0, .int .i64 0, .int .i64 0, .int .i64 0, .int .i64 0, .bool false] 158)))
  by_cases hv : af u x g d = 0
  case neg =>
    have hv' : (af u x g d != 0) = true := by simp [hv]
    have HV := Lib.hid hv
    clear hv
    go_enter Try.func128, Try.ntmps128
    go_wp2_with fail
    refine C.out.mono ?_
    rintro e w1 ⟨rfl, hb⟩
    have s1 : w.heap.size + 1 < w1.heap.size := by have := hb.size; simp at this; omega
    have k1 := (hb.block w.heap.size (by simp; omega)).trans K1.out
    have k2 := (hb.block (w.heap.size + 1) (by simp)).trans K2.out
    have HB := Lib.hid (B2.out.trans (hb.mono (by simp; omega)))
    have q0 := cell_of_row w1 _ 0 _ _ _ k1
    have q1 := cell_of_row w1 _ 1 _ _ _ k1
    have q2 := cell_of_row w1 _ 2 _ _ _ k1
    have q3 := cell_of_row w1 _ 3 _ _ _ k1
    simp at q0 q1 q2 q3
    have r0 := cell_of_row w1 _ 0 _ _ _ k2
    have e0 := frozen_of_row w1 _ 0 _ _ k2
    have r1 := cell_of_row w1 _ 1 _ _ _ k2
    have e1 := frozen_of_row w1 _ 1 _ _ k2
    have r2 := cell_of_row w1 _ 2 _ _ _ k2
    have e2 := frozen_of_row w1 _ 2 _ _ k2
    have r3 := cell_of_row w1 _ 3 _ _ _ k2
    have e3 := frozen_of_row w1 _ 3 _ _ k2
    have r4 := cell_of_row w1 _ 4 _ _ _ k2
    have e4 := frozen_of_row w1 _ 4 _ _ k2
    have r5 := cell_of_row w1 _ 5 _ _ _ k2
    have e5 := frozen_of_row w1 _ 5 _ _ k2
    simp at r0 r1 r2 r3 r4 r5
    have HK := Lib.hid k2
    clear hb k1 k2 C K1 K2
    go_wp2
    refine bodyPost_ret (results_cell_row rfl _ _ (w.heap.size + 1) _ _ (0, 0) _ rfl (blk6_set HK.out _ _ _ _ _ _) Try.underlying158 rfl (by kernel_rfl)) rfl ⟨?_, below6 HB.out (by omega) _ _ _ _ _ _⟩
    rw [show use2 u x g d late = (af u x g d, 0, 0, 0, 0, false) by unfold use2; rw [if_pos HV.out], rv_eq]
  have hv' : (af u x g d != 0) = false := by simp [hv]
  obtain ⟨⟨u0, u1⟩, ⟨x0, x1⟩, ⟨g0, g1⟩, ⟨d0, d1⟩⟩ := af_zero hv
  have HV := Lib.hid hv
  clear hv
  cases late
  · by_cases hq : 1000000 ≤ u
    · go_enter Try.func128, Try.ntmps128
      go_wp2_with fail
      refine C.out.mono ?_
      rintro e w1 ⟨rfl, hb⟩
      have s1 : w.heap.size + 1 < w1.heap.size := by have := hb.size; simp at this; omega
      have k1 := (hb.block w.heap.size (by simp; omega)).trans K1.out
      have k2 := (hb.block (w.heap.size + 1) (by simp)).trans K2.out
      have HB := Lib.hid (B2.out.trans (hb.mono (by simp; omega)))
      have q0 := cell_of_row w1 _ 0 _ _ _ k1
      have q1 := cell_of_row w1 _ 1 _ _ _ k1
      have q2 := cell_of_row w1 _ 2 _ _ _ k1
      have q3 := cell_of_row w1 _ 3 _ _ _ k1
      simp at q0 q1 q2 q3
      have k2' := Lib.hid k2
      have HB1 := Lib.hid HB.out
      clear hb k1 k2 C K1 K2 HB
      go_wp2_with fail
      refine (ledgerOf_any u x g d _).mono ?_
      rintro e w2 ⟨rfl, hb⟩
      have s2 : w1.heap.size ≤ w2.heap.size := hb.size
      have HB2 := Lib.hid ((HB1.out.trans (hb.mono (by omega))).alloc (by omega) (.cells #[.int .i64 u, .int .i64 1000000, .int .i64 x, .int .i64 1000000, .int .i64 g, .int .i64 1000000, .int .i64 d, .int .i64 3] 122))
      have HK2 := Lib.hid ((Below.heap_alloc w2 (.cells #[.int .i64 u, .int .i64 1000000, .int .i64 x, .int .i64 1000000, .int .i64 g, .int .i64 1000000, .int .i64 d, .int .i64 3] 122) (w.heap.size + 1) (by omega)).trans ((hb.block (w.heap.size + 1) s1).trans k2'.out))
      have HL := Lib.hid (heap_alloc_new w2 (.cells #[.int .i64 u, .int .i64 1000000, .int .i64 x, .int .i64 1000000, .int .i64 g, .int .i64 1000000, .int .i64 d, .int .i64 3] 122))
      clear hb k2' HB1
      go_wp2_with fail
      refine (add_full w2.heap.size 0 u 1000000 _ (by omega) (cell_of_row _ _ 0 _ _ _ HL.out) (cell_of_row _ _ 1 _ _ _ HL.out)).mono ?_
      rintro e w4 ⟨rfl, n, hw4⟩
      have k4 : w4.heap[w2.heap.size]? = some (.cells #[.int .i64 u, .int .i64 1000000, .int .i64 x, .int .i64 1000000, .int .i64 g, .int .i64 1000000, .int .i64 d, .int .i64 3] 122 (0, 0)) := by rw [hw4]; exact HL.out
      have k2 : w4.heap[w.heap.size + 1]? = some (.cells #[.int .i64 0, .int .i64 0, .int .i64 0, .int .i64 0, .int .i64 0, .bool false] 158 (0, 0)) := by rw [hw4]; exact HK2.out
      have HB := Lib.hid (show Below w.heap.size w w4 by rw [hw4]; exact below_drewN HB2.out n)
      have s4 : w2.heap.size < w4.heap.size := (Array.getElem?_eq_some_iff.1 k4).1
      have c0 := cell_of_row w4 _ 0 _ _ _ k4
      have c1 := cell_of_row w4 _ 1 _ _ _ k4
      have c2 := cell_of_row w4 _ 2 _ _ _ k4
      have c3 := cell_of_row w4 _ 3 _ _ _ k4
      have c4 := cell_of_row w4 _ 4 _ _ _ k4
      have c5 := cell_of_row w4 _ 5 _ _ _ k4
      have c6 := cell_of_row w4 _ 6 _ _ _ k4
      have c7 := cell_of_row w4 _ 7 _ _ _ k4
      simp at c0 c1 c2 c3 c4 c5 c6 c7
      have HK4 := Lib.hid k2
      clear hw4 k4 k2 HB2 HK2 HL
      go_wp2_with fail
      refine (answer_bad 8 u x g d 1000000 1000000 1000000 3 _ rfl).mono ?_
      rintro e w5 ⟨rfl, hb⟩
      have k2 := (hb.block (w.heap.size + 1) (by omega)).trans HK4.out
      have HBB := Lib.hid (HB.out.trans (hb.mono (by omega)))
      have r0 := cell_of_row w5 _ 0 _ _ _ k2
      have e0 := frozen_of_row w5 _ 0 _ _ k2
      have r1 := cell_of_row w5 _ 1 _ _ _ k2
      have e1 := frozen_of_row w5 _ 1 _ _ k2
      have r2 := cell_of_row w5 _ 2 _ _ _ k2
      have e2 := frozen_of_row w5 _ 2 _ _ k2
      have r3 := cell_of_row w5 _ 3 _ _ _ k2
      have e3 := frozen_of_row w5 _ 3 _ _ k2
      have r4 := cell_of_row w5 _ 4 _ _ _ k2
      have e4 := frozen_of_row w5 _ 4 _ _ k2
      have r5 := cell_of_row w5 _ 5 _ _ _ k2
      have e5 := frozen_of_row w5 _ 5 _ _ k2
      simp at r0 r1 r2 r3 r4 r5
      have HK := Lib.hid k2
      clear hb k2 HK4
      go_wp2
      refine bodyPost_ret (results_cell_row rfl _ _ (w.heap.size + 1) _ _ (0, 0) _ rfl (blk6_set HK.out _ _ _ _ _ _) Try.underlying158 rfl (by kernel_rfl)) rfl ⟨?_, below6 HBB.out (by omega) _ _ _ _ _ _⟩
      rw [show use2 u x g d false = (8, 0, 0, 0, 0, false) by unfold use2; rw [if_neg (by rw [HV.out]; simp), if_neg (by simp), if_pos hq], rv_eq]
    · go_enter Try.func128, Try.ntmps128
      go_wp2_with fail
      refine C.out.mono ?_
      rintro e w1 ⟨rfl, hb⟩
      have s1 : w.heap.size + 1 < w1.heap.size := by have := hb.size; simp at this; omega
      have k1 := (hb.block w.heap.size (by simp; omega)).trans K1.out
      have k2 := (hb.block (w.heap.size + 1) (by simp)).trans K2.out
      have HB := Lib.hid (B2.out.trans (hb.mono (by simp; omega)))
      have q0 := cell_of_row w1 _ 0 _ _ _ k1
      have q1 := cell_of_row w1 _ 1 _ _ _ k1
      have q2 := cell_of_row w1 _ 2 _ _ _ k1
      have q3 := cell_of_row w1 _ 3 _ _ _ k1
      simp at q0 q1 q2 q3
      have k2' := Lib.hid k2
      have HB1 := Lib.hid HB.out
      clear hb k1 k2 C K1 K2 HB
      go_wp2_with fail
      refine (ledgerOf_any u x g d _).mono ?_
      rintro e w2 ⟨rfl, hb⟩
      have s2 : w1.heap.size ≤ w2.heap.size := hb.size
      have HB2 := Lib.hid ((HB1.out.trans (hb.mono (by omega))).alloc (by omega) (.cells #[.int .i64 u, .int .i64 1000000, .int .i64 x, .int .i64 1000000, .int .i64 g, .int .i64 1000000, .int .i64 d, .int .i64 3] 122))
      have HK2 := Lib.hid ((Below.heap_alloc w2 (.cells #[.int .i64 u, .int .i64 1000000, .int .i64 x, .int .i64 1000000, .int .i64 g, .int .i64 1000000, .int .i64 d, .int .i64 3] 122) (w.heap.size + 1) (by omega)).trans ((hb.block (w.heap.size + 1) s1).trans k2'.out))
      have HL := Lib.hid (heap_alloc_new w2 (.cells #[.int .i64 u, .int .i64 1000000, .int .i64 x, .int .i64 1000000, .int .i64 g, .int .i64 1000000, .int .i64 d, .int .i64 3] 122))
      clear hb k2' HB1
      go_wp2_with fail
      refine (add_room w2.heap.size 0 u 1000000 _ (by omega) (by omega) (cell_of_row _ _ 0 _ _ _ HL.out) (cell_of_row _ _ 1 _ _ _ HL.out) (frozen_of_row _ _ 0 _ _ HL.out) (by omega)).mono ?_
      rintro e w4 ⟨rfl, n, hw4⟩
      have k4 : w4.heap[w2.heap.size]? = some (.cells #[.int .i64 (u + 1), .int .i64 1000000, .int .i64 x, .int .i64 1000000, .int .i64 g, .int .i64 1000000, .int .i64 d, .int .i64 3] 122 (0, 0)) := by rw [hw4]; exact heap_setCell_same (w2.alloc (.cells #[.int .i64 u, .int .i64 1000000, .int .i64 x, .int .i64 1000000, .int .i64 g, .int .i64 1000000, .int .i64 d, .int .i64 3] 122)) w2.heap.size 0 _ _ _ HL.out
      have k2 : w4.heap[w.heap.size + 1]? = some (.cells #[.int .i64 0, .int .i64 0, .int .i64 0, .int .i64 0, .int .i64 0, .bool false] 158 (0, 0)) := by rw [hw4]; exact (Below.heap_setCell (w2.alloc (.cells #[.int .i64 u, .int .i64 1000000, .int .i64 x, .int .i64 1000000, .int .i64 g, .int .i64 1000000, .int .i64 d, .int .i64 3] 122)) ⟨w2.heap.size, 0, none⟩ _ (w.heap.size + 1) (by simp; omega)).trans HK2.out
      have HB := Lib.hid (show Below w.heap.size w w4 by rw [hw4]; exact below_drewN (HB2.out.setCell (p := ⟨w2.heap.size, 0, none⟩) (by simp; omega) _) n)
      have s4 : w2.heap.size < w4.heap.size := (Array.getElem?_eq_some_iff.1 k4).1
      have c0 := cell_of_row w4 _ 0 _ _ _ k4
      have c1 := cell_of_row w4 _ 1 _ _ _ k4
      have c2 := cell_of_row w4 _ 2 _ _ _ k4
      have c3 := cell_of_row w4 _ 3 _ _ _ k4
      have c4 := cell_of_row w4 _ 4 _ _ _ k4
      have c5 := cell_of_row w4 _ 5 _ _ _ k4
      have c6 := cell_of_row w4 _ 6 _ _ _ k4
      have c7 := cell_of_row w4 _ 7 _ _ _ k4
      simp at c0 c1 c2 c3 c4 c5 c6 c7
      have HK4 := Lib.hid k2
      clear hw4 k4 k2 HB2 HK2 HL
      go_wp2_with fail
      refine (answer_ok (u + 1) x g d 1000000 1000000 1000000 3 _).mono ?_
      rintro e w5 ⟨rfl, hb⟩
      have k2 := (hb.block (w.heap.size + 1) (by omega)).trans HK4.out
      have HBB := Lib.hid (HB.out.trans (hb.mono (by omega)))
      have r0 := cell_of_row w5 _ 0 _ _ _ k2
      have e0 := frozen_of_row w5 _ 0 _ _ k2
      have r1 := cell_of_row w5 _ 1 _ _ _ k2
      have e1 := frozen_of_row w5 _ 1 _ _ k2
      have r2 := cell_of_row w5 _ 2 _ _ _ k2
      have e2 := frozen_of_row w5 _ 2 _ _ k2
      have r3 := cell_of_row w5 _ 3 _ _ _ k2
      have e3 := frozen_of_row w5 _ 3 _ _ k2
      have r4 := cell_of_row w5 _ 4 _ _ _ k2
      have e4 := frozen_of_row w5 _ 4 _ _ k2
      have r5 := cell_of_row w5 _ 5 _ _ _ k2
      have e5 := frozen_of_row w5 _ 5 _ _ k2
      simp at r0 r1 r2 r3 r4 r5
      have HK := Lib.hid k2
      clear hb k2 HK4
      go_wp2
      refine bodyPost_ret (results_cell_row rfl _ _ (w.heap.size + 1) _ _ (0, 0) _ rfl (blk6_set HK.out _ _ _ _ _ _) Try.underlying158 rfl (by kernel_rfl)) rfl ⟨?_, below6 HBB.out (by omega) _ _ _ _ _ _⟩
      rw [show use2 u x g d false = (0, u + 1, x, g, d, false) by unfold use2; rw [if_neg (by rw [HV.out]; simp), if_neg (by simp), if_neg (by omega)], rv_eq]
  · by_cases hq : 1000000 ≤ x
    · go_enter Try.func128, Try.ntmps128
      go_wp2_with fail
      refine C.out.mono ?_
      rintro e w1 ⟨rfl, hb⟩
      have s1 : w.heap.size + 1 < w1.heap.size := by have := hb.size; simp at this; omega
      have k1 := (hb.block w.heap.size (by simp; omega)).trans K1.out
      have k2 := (hb.block (w.heap.size + 1) (by simp)).trans K2.out
      have HB := Lib.hid (B2.out.trans (hb.mono (by simp; omega)))
      have q0 := cell_of_row w1 _ 0 _ _ _ k1
      have q1 := cell_of_row w1 _ 1 _ _ _ k1
      have q2 := cell_of_row w1 _ 2 _ _ _ k1
      have q3 := cell_of_row w1 _ 3 _ _ _ k1
      simp at q0 q1 q2 q3
      have k2' := Lib.hid k2
      have HB1 := Lib.hid HB.out
      clear hb k1 k2 C K1 K2 HB
      go_wp2_with fail
      refine (ledgerOf_any u x g d _).mono ?_
      rintro e w2 ⟨rfl, hb⟩
      have s2 : w1.heap.size ≤ w2.heap.size := hb.size
      have HB2 := Lib.hid ((HB1.out.trans (hb.mono (by omega))).alloc (by omega) (.cells #[.int .i64 u, .int .i64 1000000, .int .i64 x, .int .i64 1000000, .int .i64 g, .int .i64 1000000, .int .i64 d, .int .i64 3] 122))
      have HK2 := Lib.hid ((Below.heap_alloc w2 (.cells #[.int .i64 u, .int .i64 1000000, .int .i64 x, .int .i64 1000000, .int .i64 g, .int .i64 1000000, .int .i64 d, .int .i64 3] 122) (w.heap.size + 1) (by omega)).trans ((hb.block (w.heap.size + 1) s1).trans k2'.out))
      have HL := Lib.hid (heap_alloc_new w2 (.cells #[.int .i64 u, .int .i64 1000000, .int .i64 x, .int .i64 1000000, .int .i64 g, .int .i64 1000000, .int .i64 d, .int .i64 3] 122))
      clear hb k2' HB1
      go_wp2_with fail
      refine (add_full w2.heap.size 2 x 1000000 _ (by omega) (cell_of_row _ _ 2 _ _ _ HL.out) (cell_of_row _ _ 3 _ _ _ HL.out)).mono ?_
      rintro e w4 ⟨rfl, n, hw4⟩
      have k4 : w4.heap[w2.heap.size]? = some (.cells #[.int .i64 u, .int .i64 1000000, .int .i64 x, .int .i64 1000000, .int .i64 g, .int .i64 1000000, .int .i64 d, .int .i64 3] 122 (0, 0)) := by rw [hw4]; exact HL.out
      have k2 : w4.heap[w.heap.size + 1]? = some (.cells #[.int .i64 0, .int .i64 0, .int .i64 0, .int .i64 0, .int .i64 0, .bool false] 158 (0, 0)) := by rw [hw4]; exact HK2.out
      have HB := Lib.hid (show Below w.heap.size w w4 by rw [hw4]; exact below_drewN HB2.out n)
      have s4 : w2.heap.size < w4.heap.size := (Array.getElem?_eq_some_iff.1 k4).1
      have c0 := cell_of_row w4 _ 0 _ _ _ k4
      have c1 := cell_of_row w4 _ 1 _ _ _ k4
      have c2 := cell_of_row w4 _ 2 _ _ _ k4
      have c3 := cell_of_row w4 _ 3 _ _ _ k4
      have c4 := cell_of_row w4 _ 4 _ _ _ k4
      have c5 := cell_of_row w4 _ 5 _ _ _ k4
      have c6 := cell_of_row w4 _ 6 _ _ _ k4
      have c7 := cell_of_row w4 _ 7 _ _ _ k4
      simp at c0 c1 c2 c3 c4 c5 c6 c7
      have HK4 := Lib.hid k2
      clear hw4 k4 k2 HB2 HK2 HL
      go_wp2_with fail
      refine (answer_bad 8 u x g d 1000000 1000000 1000000 3 _ rfl).mono ?_
      rintro e w5 ⟨rfl, hb⟩
      have k2 := (hb.block (w.heap.size + 1) (by omega)).trans HK4.out
      have HBB := Lib.hid (HB.out.trans (hb.mono (by omega)))
      have r0 := cell_of_row w5 _ 0 _ _ _ k2
      have e0 := frozen_of_row w5 _ 0 _ _ k2
      have r1 := cell_of_row w5 _ 1 _ _ _ k2
      have e1 := frozen_of_row w5 _ 1 _ _ k2
      have r2 := cell_of_row w5 _ 2 _ _ _ k2
      have e2 := frozen_of_row w5 _ 2 _ _ k2
      have r3 := cell_of_row w5 _ 3 _ _ _ k2
      have e3 := frozen_of_row w5 _ 3 _ _ k2
      have r4 := cell_of_row w5 _ 4 _ _ _ k2
      have e4 := frozen_of_row w5 _ 4 _ _ k2
      have r5 := cell_of_row w5 _ 5 _ _ _ k2
      have e5 := frozen_of_row w5 _ 5 _ _ k2
      simp at r0 r1 r2 r3 r4 r5
      have HK := Lib.hid k2
      clear hb k2 HK4
      go_wp2
      refine bodyPost_ret (results_cell_row rfl _ _ (w.heap.size + 1) _ _ (0, 0) _ rfl (blk6_set HK.out _ _ _ _ _ _) Try.underlying158 rfl (by kernel_rfl)) rfl ⟨?_, below6 HBB.out (by omega) _ _ _ _ _ _⟩
      rw [show use2 u x g d true = (8, 0, 0, 0, 0, false) by unfold use2; rw [if_neg (by rw [HV.out]; simp), if_pos rfl, if_pos hq], rv_eq]
    · go_enter Try.func128, Try.ntmps128
      go_wp2_with fail
      refine C.out.mono ?_
      rintro e w1 ⟨rfl, hb⟩
      have s1 : w.heap.size + 1 < w1.heap.size := by have := hb.size; simp at this; omega
      have k1 := (hb.block w.heap.size (by simp; omega)).trans K1.out
      have k2 := (hb.block (w.heap.size + 1) (by simp)).trans K2.out
      have HB := Lib.hid (B2.out.trans (hb.mono (by simp; omega)))
      have q0 := cell_of_row w1 _ 0 _ _ _ k1
      have q1 := cell_of_row w1 _ 1 _ _ _ k1
      have q2 := cell_of_row w1 _ 2 _ _ _ k1
      have q3 := cell_of_row w1 _ 3 _ _ _ k1
      simp at q0 q1 q2 q3
      have k2' := Lib.hid k2
      have HB1 := Lib.hid HB.out
      clear hb k1 k2 C K1 K2 HB
      go_wp2_with fail
      refine (ledgerOf_any u x g d _).mono ?_
      rintro e w2 ⟨rfl, hb⟩
      have s2 : w1.heap.size ≤ w2.heap.size := hb.size
      have HB2 := Lib.hid ((HB1.out.trans (hb.mono (by omega))).alloc (by omega) (.cells #[.int .i64 u, .int .i64 1000000, .int .i64 x, .int .i64 1000000, .int .i64 g, .int .i64 1000000, .int .i64 d, .int .i64 3] 122))
      have HK2 := Lib.hid ((Below.heap_alloc w2 (.cells #[.int .i64 u, .int .i64 1000000, .int .i64 x, .int .i64 1000000, .int .i64 g, .int .i64 1000000, .int .i64 d, .int .i64 3] 122) (w.heap.size + 1) (by omega)).trans ((hb.block (w.heap.size + 1) s1).trans k2'.out))
      have HL := Lib.hid (heap_alloc_new w2 (.cells #[.int .i64 u, .int .i64 1000000, .int .i64 x, .int .i64 1000000, .int .i64 g, .int .i64 1000000, .int .i64 d, .int .i64 3] 122))
      clear hb k2' HB1
      go_wp2_with fail
      refine (add_room w2.heap.size 2 x 1000000 _ (by omega) (by omega) (cell_of_row _ _ 2 _ _ _ HL.out) (cell_of_row _ _ 3 _ _ _ HL.out) (frozen_of_row _ _ 2 _ _ HL.out) (by omega)).mono ?_
      rintro e w4 ⟨rfl, n, hw4⟩
      have k4 : w4.heap[w2.heap.size]? = some (.cells #[.int .i64 u, .int .i64 1000000, .int .i64 (x + 1), .int .i64 1000000, .int .i64 g, .int .i64 1000000, .int .i64 d, .int .i64 3] 122 (0, 0)) := by rw [hw4]; exact heap_setCell_same (w2.alloc (.cells #[.int .i64 u, .int .i64 1000000, .int .i64 x, .int .i64 1000000, .int .i64 g, .int .i64 1000000, .int .i64 d, .int .i64 3] 122)) w2.heap.size 2 _ _ _ HL.out
      have k2 : w4.heap[w.heap.size + 1]? = some (.cells #[.int .i64 0, .int .i64 0, .int .i64 0, .int .i64 0, .int .i64 0, .bool false] 158 (0, 0)) := by rw [hw4]; exact (Below.heap_setCell (w2.alloc (.cells #[.int .i64 u, .int .i64 1000000, .int .i64 x, .int .i64 1000000, .int .i64 g, .int .i64 1000000, .int .i64 d, .int .i64 3] 122)) ⟨w2.heap.size, 2, none⟩ _ (w.heap.size + 1) (by simp; omega)).trans HK2.out
      have HB := Lib.hid (show Below w.heap.size w w4 by rw [hw4]; exact below_drewN (HB2.out.setCell (p := ⟨w2.heap.size, 2, none⟩) (by simp; omega) _) n)
      have s4 : w2.heap.size < w4.heap.size := (Array.getElem?_eq_some_iff.1 k4).1
      have c0 := cell_of_row w4 _ 0 _ _ _ k4
      have c1 := cell_of_row w4 _ 1 _ _ _ k4
      have c2 := cell_of_row w4 _ 2 _ _ _ k4
      have c3 := cell_of_row w4 _ 3 _ _ _ k4
      have c4 := cell_of_row w4 _ 4 _ _ _ k4
      have c5 := cell_of_row w4 _ 5 _ _ _ k4
      have c6 := cell_of_row w4 _ 6 _ _ _ k4
      have c7 := cell_of_row w4 _ 7 _ _ _ k4
      simp at c0 c1 c2 c3 c4 c5 c6 c7
      have HK4 := Lib.hid k2
      clear hw4 k4 k2 HB2 HK2 HL
      go_wp2_with fail
      refine (answer_ok u (x + 1) g d 1000000 1000000 1000000 3 _).mono ?_
      rintro e w5 ⟨rfl, hb⟩
      have k2 := (hb.block (w.heap.size + 1) (by omega)).trans HK4.out
      have HBB := Lib.hid (HB.out.trans (hb.mono (by omega)))
      have r0 := cell_of_row w5 _ 0 _ _ _ k2
      have e0 := frozen_of_row w5 _ 0 _ _ k2
      have r1 := cell_of_row w5 _ 1 _ _ _ k2
      have e1 := frozen_of_row w5 _ 1 _ _ k2
      have r2 := cell_of_row w5 _ 2 _ _ _ k2
      have e2 := frozen_of_row w5 _ 2 _ _ k2
      have r3 := cell_of_row w5 _ 3 _ _ _ k2
      have e3 := frozen_of_row w5 _ 3 _ _ k2
      have r4 := cell_of_row w5 _ 4 _ _ _ k2
      have e4 := frozen_of_row w5 _ 4 _ _ k2
      have r5 := cell_of_row w5 _ 5 _ _ _ k2
      have e5 := frozen_of_row w5 _ 5 _ _ k2
      simp at r0 r1 r2 r3 r4 r5
      have HK := Lib.hid k2
      clear hb k2 HK4
      go_wp2
      refine bodyPost_ret (results_cell_row rfl _ _ (w.heap.size + 1) _ _ (0, 0) _ rfl (blk6_set HK.out _ _ _ _ _ _) Try.underlying158 rfl (by kernel_rfl)) rfl ⟨?_, below6 HBB.out (by omega) _ _ _ _ _ _⟩
      rw [show use2 u x g d true = (0, u, x + 1, g, d, false) by unfold use2; rw [if_neg (by rw [HV.out]; simp), if_pos rfl, if_neg (by omega)], rv_eq]

theorem implGiveTick_any (u x g d : Int) (w : World) :
    Calls Try.prog 130 #[.agg #[.int .i64 u, .int .i64 x, .int .i64 g, .int .i64 d]] w fun e w' => e = .returned (rv (give2 u x g d)) ∧ Below w.heap.size w w' := by
  have B2 : Hid (Below w.heap.size w ((w.alloc (.cells #[.int .i64 u, .int .i64 x, .int .i64 g, .int .i64 d] 68)).alloc (.cells #[.int .i64 0, .int .i64 0, .int .i64 0, .int .i64 0, .int .i64 0, .bool false] 158))) := (below_new w _).alloc (by simp) _
  have K1 : Hid (((w.alloc (.cells #[.int .i64 u, .int .i64 x, .int .i64 g, .int .i64 d] 68)).alloc (.cells #[.int .i64 0, .int .i64 0, .int .i64 0, .int .i64 0, .int .i64 0, .bool false] 158)).heap[w.heap.size]? = some (.cells #[.int .i64 u, .int .i64 x, .int .i64 g, .int .i64 d] 68 (0, 0))) := heap_alloc2_old w _ _
  have K2 : Hid (((w.alloc (.cells #[.int .i64 u, .int .i64 x, .int .i64 g, .int .i64 d] 68)).alloc (.cells #[.int .i64 0, .int .i64 0, .int .i64 0, .int .i64 0, .int .i64 0, .bool false] 158)).heap[w.heap.size + 1]? = some (.cells #[.int .i64 0, .int .i64 0, .int .i64 0, .int .i64 0, .int .i64 0, .bool false] 158 (0, 0))) := heap_alloc2_new w _ _
  have C := Lib.hid (implAccountFault_any u x g d ((w.alloc (.cells #[.int .i64 u, .int .i64 x, .int .i64 g, .int .i64 d] 68)).alloc (.cells #[.int .i64 0, .int .i64 0, .int .i64 0, .int .i64 0, .int .i64 0, .bool false] 158)))
  by_cases hv : af u x g d = 0
  case neg =>
    have hv' : (af u x g d != 0) = true := by simp [hv]
    have HV := Lib.hid hv
    clear hv
    go_enter Try.func130, Try.ntmps130
    go_wp2_with fail
    refine C.out.mono ?_
    rintro e w1 ⟨rfl, hb⟩
    have s1 : w.heap.size + 1 < w1.heap.size := by have := hb.size; simp at this; omega
    have k1 := (hb.block w.heap.size (by simp; omega)).trans K1.out
    have k2 := (hb.block (w.heap.size + 1) (by simp)).trans K2.out
    have HB := Lib.hid (B2.out.trans (hb.mono (by simp; omega)))
    have q0 := cell_of_row w1 _ 0 _ _ _ k1
    have q1 := cell_of_row w1 _ 1 _ _ _ k1
    have q2 := cell_of_row w1 _ 2 _ _ _ k1
    have q3 := cell_of_row w1 _ 3 _ _ _ k1
    simp at q0 q1 q2 q3
    have r0 := cell_of_row w1 _ 0 _ _ _ k2
    have e0 := frozen_of_row w1 _ 0 _ _ k2
    have r1 := cell_of_row w1 _ 1 _ _ _ k2
    have e1 := frozen_of_row w1 _ 1 _ _ k2
    have r2 := cell_of_row w1 _ 2 _ _ _ k2
    have e2 := frozen_of_row w1 _ 2 _ _ k2
    have r3 := cell_of_row w1 _ 3 _ _ _ k2
    have e3 := frozen_of_row w1 _ 3 _ _ k2
    have r4 := cell_of_row w1 _ 4 _ _ _ k2
    have e4 := frozen_of_row w1 _ 4 _ _ k2
    have r5 := cell_of_row w1 _ 5 _ _ _ k2
    have e5 := frozen_of_row w1 _ 5 _ _ k2
    simp at r0 r1 r2 r3 r4 r5
    have HK := Lib.hid k2
    clear hb k1 k2 C K1 K2
    go_wp2
    refine bodyPost_ret (results_cell_row rfl _ _ (w.heap.size + 1) _ _ (0, 0) _ rfl (blk6_set HK.out _ _ _ _ _ _) Try.underlying158 rfl (by kernel_rfl)) rfl ⟨?_, below6 HB.out (by omega) _ _ _ _ _ _⟩
    rw [show give2 u x g d = (af u x g d, 0, 0, 0, 0, false) by unfold give2; rw [if_pos HV.out], rv_eq]
  have hv' : (af u x g d != 0) = false := by simp [hv]
  obtain ⟨⟨u0, u1⟩, ⟨x0, x1⟩, ⟨g0, g1⟩, ⟨d0, d1⟩⟩ := af_zero hv
  have HV := Lib.hid hv
  clear hv
  by_cases hq : 1000000 ≤ g
  · go_enter Try.func130, Try.ntmps130
    go_wp2_with fail
    refine C.out.mono ?_
    rintro e w1 ⟨rfl, hb⟩
    have s1 : w.heap.size + 1 < w1.heap.size := by have := hb.size; simp at this; omega
    have k1 := (hb.block w.heap.size (by simp; omega)).trans K1.out
    have k2 := (hb.block (w.heap.size + 1) (by simp)).trans K2.out
    have HB := Lib.hid (B2.out.trans (hb.mono (by simp; omega)))
    have q0 := cell_of_row w1 _ 0 _ _ _ k1
    have q1 := cell_of_row w1 _ 1 _ _ _ k1
    have q2 := cell_of_row w1 _ 2 _ _ _ k1
    have q3 := cell_of_row w1 _ 3 _ _ _ k1
    simp at q0 q1 q2 q3
    have k2' := Lib.hid k2
    have HB1 := Lib.hid HB.out
    clear hb k1 k2 C K1 K2 HB
    go_wp2_with fail
    refine (ledgerOf_any u x g d _).mono ?_
    rintro e w2 ⟨rfl, hb⟩
    have s2 : w1.heap.size ≤ w2.heap.size := hb.size
    have HB2 := Lib.hid ((HB1.out.trans (hb.mono (by omega))).alloc (by omega) (.cells #[.int .i64 u, .int .i64 1000000, .int .i64 x, .int .i64 1000000, .int .i64 g, .int .i64 1000000, .int .i64 d, .int .i64 3] 122))
    have HK2 := Lib.hid ((Below.heap_alloc w2 (.cells #[.int .i64 u, .int .i64 1000000, .int .i64 x, .int .i64 1000000, .int .i64 g, .int .i64 1000000, .int .i64 d, .int .i64 3] 122) (w.heap.size + 1) (by omega)).trans ((hb.block (w.heap.size + 1) s1).trans k2'.out))
    have HL := Lib.hid (heap_alloc_new w2 (.cells #[.int .i64 u, .int .i64 1000000, .int .i64 x, .int .i64 1000000, .int .i64 g, .int .i64 1000000, .int .i64 d, .int .i64 3] 122))
    clear hb k2' HB1
    go_wp2_with fail
    refine (add_full w2.heap.size 4 g 1000000 _ (by omega) (cell_of_row _ _ 4 _ _ _ HL.out) (cell_of_row _ _ 5 _ _ _ HL.out)).mono ?_
    rintro e w4 ⟨rfl, n, hw4⟩
    have k4 : w4.heap[w2.heap.size]? = some (.cells #[.int .i64 u, .int .i64 1000000, .int .i64 x, .int .i64 1000000, .int .i64 g, .int .i64 1000000, .int .i64 d, .int .i64 3] 122 (0, 0)) := by rw [hw4]; exact HL.out
    have k2 : w4.heap[w.heap.size + 1]? = some (.cells #[.int .i64 0, .int .i64 0, .int .i64 0, .int .i64 0, .int .i64 0, .bool false] 158 (0, 0)) := by rw [hw4]; exact HK2.out
    have HB := Lib.hid (show Below w.heap.size w w4 by rw [hw4]; exact below_drewN HB2.out n)
    have s4 : w2.heap.size < w4.heap.size := (Array.getElem?_eq_some_iff.1 k4).1
    have c0 := cell_of_row w4 _ 0 _ _ _ k4
    have c1 := cell_of_row w4 _ 1 _ _ _ k4
    have c2 := cell_of_row w4 _ 2 _ _ _ k4
    have c3 := cell_of_row w4 _ 3 _ _ _ k4
    have c4 := cell_of_row w4 _ 4 _ _ _ k4
    have c5 := cell_of_row w4 _ 5 _ _ _ k4
    have c6 := cell_of_row w4 _ 6 _ _ _ k4
    have c7 := cell_of_row w4 _ 7 _ _ _ k4
    simp at c0 c1 c2 c3 c4 c5 c6 c7
    have HK4 := Lib.hid k2
    clear hw4 k4 k2 HB2 HK2 HL
    go_wp2_with fail
    refine (answer_bad 8 u x g d 1000000 1000000 1000000 3 _ rfl).mono ?_
    rintro e w5 ⟨rfl, hb⟩
    have k2 := (hb.block (w.heap.size + 1) (by omega)).trans HK4.out
    have HBB := Lib.hid (HB.out.trans (hb.mono (by omega)))
    have r0 := cell_of_row w5 _ 0 _ _ _ k2
    have e0 := frozen_of_row w5 _ 0 _ _ k2
    have r1 := cell_of_row w5 _ 1 _ _ _ k2
    have e1 := frozen_of_row w5 _ 1 _ _ k2
    have r2 := cell_of_row w5 _ 2 _ _ _ k2
    have e2 := frozen_of_row w5 _ 2 _ _ k2
    have r3 := cell_of_row w5 _ 3 _ _ _ k2
    have e3 := frozen_of_row w5 _ 3 _ _ k2
    have r4 := cell_of_row w5 _ 4 _ _ _ k2
    have e4 := frozen_of_row w5 _ 4 _ _ k2
    have r5 := cell_of_row w5 _ 5 _ _ _ k2
    have e5 := frozen_of_row w5 _ 5 _ _ k2
    simp at r0 r1 r2 r3 r4 r5
    have HK := Lib.hid k2
    clear hb k2 HK4
    go_wp2
    refine bodyPost_ret (results_cell_row rfl _ _ (w.heap.size + 1) _ _ (0, 0) _ rfl (blk6_set HK.out _ _ _ _ _ _) Try.underlying158 rfl (by kernel_rfl)) rfl ⟨?_, below6 HBB.out (by omega) _ _ _ _ _ _⟩
    rw [show give2 u x g d = (8, 0, 0, 0, 0, false) by unfold give2; rw [if_neg (by rw [HV.out]; simp), if_pos hq], rv_eq]
  · go_enter Try.func130, Try.ntmps130
    go_wp2_with fail
    refine C.out.mono ?_
    rintro e w1 ⟨rfl, hb⟩
    have s1 : w.heap.size + 1 < w1.heap.size := by have := hb.size; simp at this; omega
    have k1 := (hb.block w.heap.size (by simp; omega)).trans K1.out
    have k2 := (hb.block (w.heap.size + 1) (by simp)).trans K2.out
    have HB := Lib.hid (B2.out.trans (hb.mono (by simp; omega)))
    have q0 := cell_of_row w1 _ 0 _ _ _ k1
    have q1 := cell_of_row w1 _ 1 _ _ _ k1
    have q2 := cell_of_row w1 _ 2 _ _ _ k1
    have q3 := cell_of_row w1 _ 3 _ _ _ k1
    simp at q0 q1 q2 q3
    have k2' := Lib.hid k2
    have HB1 := Lib.hid HB.out
    clear hb k1 k2 C K1 K2 HB
    go_wp2_with fail
    refine (ledgerOf_any u x g d _).mono ?_
    rintro e w2 ⟨rfl, hb⟩
    have s2 : w1.heap.size ≤ w2.heap.size := hb.size
    have HB2 := Lib.hid ((HB1.out.trans (hb.mono (by omega))).alloc (by omega) (.cells #[.int .i64 u, .int .i64 1000000, .int .i64 x, .int .i64 1000000, .int .i64 g, .int .i64 1000000, .int .i64 d, .int .i64 3] 122))
    have HK2 := Lib.hid ((Below.heap_alloc w2 (.cells #[.int .i64 u, .int .i64 1000000, .int .i64 x, .int .i64 1000000, .int .i64 g, .int .i64 1000000, .int .i64 d, .int .i64 3] 122) (w.heap.size + 1) (by omega)).trans ((hb.block (w.heap.size + 1) s1).trans k2'.out))
    have HL := Lib.hid (heap_alloc_new w2 (.cells #[.int .i64 u, .int .i64 1000000, .int .i64 x, .int .i64 1000000, .int .i64 g, .int .i64 1000000, .int .i64 d, .int .i64 3] 122))
    clear hb k2' HB1
    go_wp2_with fail
    refine (add_room w2.heap.size 4 g 1000000 _ (by omega) (by omega) (cell_of_row _ _ 4 _ _ _ HL.out) (cell_of_row _ _ 5 _ _ _ HL.out) (frozen_of_row _ _ 4 _ _ HL.out) (by omega)).mono ?_
    rintro e w4 ⟨rfl, n, hw4⟩
    have k4 : w4.heap[w2.heap.size]? = some (.cells #[.int .i64 u, .int .i64 1000000, .int .i64 x, .int .i64 1000000, .int .i64 (g + 1), .int .i64 1000000, .int .i64 d, .int .i64 3] 122 (0, 0)) := by rw [hw4]; exact heap_setCell_same (w2.alloc (.cells #[.int .i64 u, .int .i64 1000000, .int .i64 x, .int .i64 1000000, .int .i64 g, .int .i64 1000000, .int .i64 d, .int .i64 3] 122)) w2.heap.size 4 _ _ _ HL.out
    have k2 : w4.heap[w.heap.size + 1]? = some (.cells #[.int .i64 0, .int .i64 0, .int .i64 0, .int .i64 0, .int .i64 0, .bool false] 158 (0, 0)) := by rw [hw4]; exact (Below.heap_setCell (w2.alloc (.cells #[.int .i64 u, .int .i64 1000000, .int .i64 x, .int .i64 1000000, .int .i64 g, .int .i64 1000000, .int .i64 d, .int .i64 3] 122)) ⟨w2.heap.size, 4, none⟩ _ (w.heap.size + 1) (by simp; omega)).trans HK2.out
    have HB := Lib.hid (show Below w.heap.size w w4 by rw [hw4]; exact below_drewN (HB2.out.setCell (p := ⟨w2.heap.size, 4, none⟩) (by simp; omega) _) n)
    have s4 : w2.heap.size < w4.heap.size := (Array.getElem?_eq_some_iff.1 k4).1
    have c0 := cell_of_row w4 _ 0 _ _ _ k4
    have c1 := cell_of_row w4 _ 1 _ _ _ k4
    have c2 := cell_of_row w4 _ 2 _ _ _ k4
    have c3 := cell_of_row w4 _ 3 _ _ _ k4
    have c4 := cell_of_row w4 _ 4 _ _ _ k4
    have c5 := cell_of_row w4 _ 5 _ _ _ k4
    have c6 := cell_of_row w4 _ 6 _ _ _ k4
    have c7 := cell_of_row w4 _ 7 _ _ _ k4
    simp at c0 c1 c2 c3 c4 c5 c6 c7
    have HK4 := Lib.hid k2
    clear hw4 k4 k2 HB2 HK2 HL
    go_wp2_with fail
    refine (answer_ok u x (g + 1) d 1000000 1000000 1000000 3 _).mono ?_
    rintro e w5 ⟨rfl, hb⟩
    have k2 := (hb.block (w.heap.size + 1) (by omega)).trans HK4.out
    have HBB := Lib.hid (HB.out.trans (hb.mono (by omega)))
    have r0 := cell_of_row w5 _ 0 _ _ _ k2
    have e0 := frozen_of_row w5 _ 0 _ _ k2
    have r1 := cell_of_row w5 _ 1 _ _ _ k2
    have e1 := frozen_of_row w5 _ 1 _ _ k2
    have r2 := cell_of_row w5 _ 2 _ _ _ k2
    have e2 := frozen_of_row w5 _ 2 _ _ k2
    have r3 := cell_of_row w5 _ 3 _ _ _ k2
    have e3 := frozen_of_row w5 _ 3 _ _ k2
    have r4 := cell_of_row w5 _ 4 _ _ _ k2
    have e4 := frozen_of_row w5 _ 4 _ _ k2
    have r5 := cell_of_row w5 _ 5 _ _ _ k2
    have e5 := frozen_of_row w5 _ 5 _ _ k2
    simp at r0 r1 r2 r3 r4 r5
    have HK := Lib.hid k2
    clear hb k2 HK4
    go_wp2
    refine bodyPost_ret (results_cell_row rfl _ _ (w.heap.size + 1) _ _ (0, 0) _ rfl (blk6_set HK.out _ _ _ _ _ _) Try.underlying158 rfl (by kernel_rfl)) rfl ⟨?_, below6 HBB.out (by omega) _ _ _ _ _ _⟩
    rw [show give2 u x g d = (0, u, x, g + 1, d, false) by unfold give2; rw [if_neg (by rw [HV.out]; simp), if_neg (by omega)], rv_eq]

theorem implPunishAccount_any (u x g d : Int) (w : World) :
    Calls Try.prog 137 #[.agg #[.int .i64 u, .int .i64 x, .int .i64 g, .int .i64 d]] w fun e w' => e = .returned (rv (pun2 u x g d)) ∧ Below w.heap.size w w' := by
  have B2 : Hid (Below w.heap.size w ((w.alloc (.cells #[.int .i64 u, .int .i64 x, .int .i64 g, .int .i64 d] 68)).alloc (.cells #[.int .i64 0, .int .i64 0, .int .i64 0, .int .i64 0, .int .i64 0, .bool false] 158))) := (below_new w _).alloc (by simp) _
  have K1 : Hid (((w.alloc (.cells #[.int .i64 u, .int .i64 x, .int .i64 g, .int .i64 d] 68)).alloc (.cells #[.int .i64 0, .int .i64 0, .int .i64 0, .int .i64 0, .int .i64 0, .bool false] 158)).heap[w.heap.size]? = some (.cells #[.int .i64 u, .int .i64 x, .int .i64 g, .int .i64 d] 68 (0, 0))) := heap_alloc2_old w _ _
  have K2 : Hid (((w.alloc (.cells #[.int .i64 u, .int .i64 x, .int .i64 g, .int .i64 d] 68)).alloc (.cells #[.int .i64 0, .int .i64 0, .int .i64 0, .int .i64 0, .int .i64 0, .bool false] 158)).heap[w.heap.size + 1]? = some (.cells #[.int .i64 0, .int .i64 0, .int .i64 0, .int .i64 0, .int .i64 0, .bool false] 158 (0, 0))) := heap_alloc2_new w _ _
  have C := Lib.hid (implAccountFault_any u x g d ((w.alloc (.cells #[.int .i64 u, .int .i64 x, .int .i64 g, .int .i64 d] 68)).alloc (.cells #[.int .i64 0, .int .i64 0, .int .i64 0, .int .i64 0, .int .i64 0, .bool false] 158)))
  by_cases hv : af u x g d = 0
  case neg =>
    have hv' : (af u x g d != 0) = true := by simp [hv]
    have HV := Lib.hid hv
    clear hv
    go_enter Try.func137, Try.ntmps137
    go_wp2_with fail
    refine C.out.mono ?_
    rintro e w1 ⟨rfl, hb⟩
    have s1 : w.heap.size + 1 < w1.heap.size := by have := hb.size; simp at this; omega
    have k1 := (hb.block w.heap.size (by simp; omega)).trans K1.out
    have k2 := (hb.block (w.heap.size + 1) (by simp)).trans K2.out
    have HB := Lib.hid (B2.out.trans (hb.mono (by simp; omega)))
    have q0 := cell_of_row w1 _ 0 _ _ _ k1
    have q1 := cell_of_row w1 _ 1 _ _ _ k1
    have q2 := cell_of_row w1 _ 2 _ _ _ k1
    have q3 := cell_of_row w1 _ 3 _ _ _ k1
    simp at q0 q1 q2 q3
    have r0 := cell_of_row w1 _ 0 _ _ _ k2
    have e0 := frozen_of_row w1 _ 0 _ _ k2
    have r1 := cell_of_row w1 _ 1 _ _ _ k2
    have e1 := frozen_of_row w1 _ 1 _ _ k2
    have r2 := cell_of_row w1 _ 2 _ _ _ k2
    have e2 := frozen_of_row w1 _ 2 _ _ k2
    have r3 := cell_of_row w1 _ 3 _ _ _ k2
    have e3 := frozen_of_row w1 _ 3 _ _ k2
    have r4 := cell_of_row w1 _ 4 _ _ _ k2
    have e4 := frozen_of_row w1 _ 4 _ _ k2
    have r5 := cell_of_row w1 _ 5 _ _ _ k2
    have e5 := frozen_of_row w1 _ 5 _ _ k2
    simp at r0 r1 r2 r3 r4 r5
    have HK := Lib.hid k2
    clear hb k1 k2 C K1 K2
    go_wp2
    refine bodyPost_ret (results_cell_row rfl _ _ (w.heap.size + 1) _ _ (0, 0) _ rfl (blk6_set HK.out _ _ _ _ _ _) Try.underlying158 rfl (by kernel_rfl)) rfl ⟨?_, below6 HB.out (by omega) _ _ _ _ _ _⟩
    rw [show pun2 u x g d = (af u x g d, 0, 0, 0, 0, false) by unfold pun2; rw [if_pos HV.out], rv_eq]
  have hv' : (af u x g d != 0) = false := by simp [hv]
  obtain ⟨⟨u0, u1⟩, ⟨x0, x1⟩, ⟨g0, g1⟩, ⟨d0, d1⟩⟩ := af_zero hv
  have HV := Lib.hid hv
  clear hv
  by_cases hq : 3 ≤ d
  · go_enter Try.func137, Try.ntmps137
    go_wp2_with fail
    refine C.out.mono ?_
    rintro e w1 ⟨rfl, hb⟩
    have s1 : w.heap.size + 1 < w1.heap.size := by have := hb.size; simp at this; omega
    have k1 := (hb.block w.heap.size (by simp; omega)).trans K1.out
    have k2 := (hb.block (w.heap.size + 1) (by simp)).trans K2.out
    have HB := Lib.hid (B2.out.trans (hb.mono (by simp; omega)))
    have q0 := cell_of_row w1 _ 0 _ _ _ k1
    have q1 := cell_of_row w1 _ 1 _ _ _ k1
    have q2 := cell_of_row w1 _ 2 _ _ _ k1
    have q3 := cell_of_row w1 _ 3 _ _ _ k1
    simp at q0 q1 q2 q3
    have k2' := Lib.hid k2
    have HB1 := Lib.hid HB.out
    clear hb k1 k2 C K1 K2 HB
    go_wp2_with fail
    refine (ledgerOf_any u x g d _).mono ?_
    rintro e w2 ⟨rfl, hb⟩
    have s2 : w1.heap.size ≤ w2.heap.size := hb.size
    have HB2 := Lib.hid ((HB1.out.trans (hb.mono (by omega))).alloc (by omega) (.cells #[.int .i64 u, .int .i64 1000000, .int .i64 x, .int .i64 1000000, .int .i64 g, .int .i64 1000000, .int .i64 d, .int .i64 3] 122))
    have HK2 := Lib.hid ((Below.heap_alloc w2 (.cells #[.int .i64 u, .int .i64 1000000, .int .i64 x, .int .i64 1000000, .int .i64 g, .int .i64 1000000, .int .i64 d, .int .i64 3] 122) (w.heap.size + 1) (by omega)).trans ((hb.block (w.heap.size + 1) s1).trans k2'.out))
    have HL := Lib.hid (heap_alloc_new w2 (.cells #[.int .i64 u, .int .i64 1000000, .int .i64 x, .int .i64 1000000, .int .i64 g, .int .i64 1000000, .int .i64 d, .int .i64 3] 122))
    clear hb k2' HB1
    go_wp2_with fail
    refine (punish_full w2.heap.size 6 d 3 _ (by omega) (cell_of_row _ _ 6 _ _ _ HL.out) (cell_of_row _ _ 7 _ _ _ HL.out)).mono ?_
    rintro e w4 ⟨rfl, n, hw4⟩
    have k4 : w4.heap[w2.heap.size]? = some (.cells #[.int .i64 u, .int .i64 1000000, .int .i64 x, .int .i64 1000000, .int .i64 g, .int .i64 1000000, .int .i64 d, .int .i64 3] 122 (0, 0)) := by rw [hw4]; exact HL.out
    have k2 : w4.heap[w.heap.size + 1]? = some (.cells #[.int .i64 0, .int .i64 0, .int .i64 0, .int .i64 0, .int .i64 0, .bool false] 158 (0, 0)) := by rw [hw4]; exact HK2.out
    have HB := Lib.hid (show Below w.heap.size w w4 by rw [hw4]; exact below_drewN HB2.out n)
    have s4 : w2.heap.size < w4.heap.size := (Array.getElem?_eq_some_iff.1 k4).1
    have c0 := cell_of_row w4 _ 0 _ _ _ k4
    have c1 := cell_of_row w4 _ 1 _ _ _ k4
    have c2 := cell_of_row w4 _ 2 _ _ _ k4
    have c3 := cell_of_row w4 _ 3 _ _ _ k4
    have c4 := cell_of_row w4 _ 4 _ _ _ k4
    have c5 := cell_of_row w4 _ 5 _ _ _ k4
    have c6 := cell_of_row w4 _ 6 _ _ _ k4
    have c7 := cell_of_row w4 _ 7 _ _ _ k4
    simp at c0 c1 c2 c3 c4 c5 c6 c7
    have HK4 := Lib.hid k2
    clear hw4 k4 k2 HB2 HK2 HL
    go_wp2_with fail
    refine (account_any u x g d 1000000 1000000 1000000 3 _).mono ?_
    rintro e w5 ⟨rfl, hb⟩
    have k2 := (hb.block (w.heap.size + 1) (by omega)).trans HK4.out
    have HBB := Lib.hid (HB.out.trans (hb.mono (by omega)))
    have r0 := cell_of_row w5 _ 0 _ _ _ k2
    have e0 := frozen_of_row w5 _ 0 _ _ k2
    have r1 := cell_of_row w5 _ 1 _ _ _ k2
    have e1 := frozen_of_row w5 _ 1 _ _ k2
    have r2 := cell_of_row w5 _ 2 _ _ _ k2
    have e2 := frozen_of_row w5 _ 2 _ _ k2
    have r3 := cell_of_row w5 _ 3 _ _ _ k2
    have e3 := frozen_of_row w5 _ 3 _ _ k2
    have r4 := cell_of_row w5 _ 4 _ _ _ k2
    have e4 := frozen_of_row w5 _ 4 _ _ k2
    have r5 := cell_of_row w5 _ 5 _ _ _ k2
    have e5 := frozen_of_row w5 _ 5 _ _ k2
    simp at r0 r1 r2 r3 r4 r5
    have HK := Lib.hid k2
    clear hb k2 HK4
    go_wp2
    refine bodyPost_ret (results_cell_row rfl _ _ (w.heap.size + 1) _ _ (0, 0) _ rfl (blk6_set HK.out _ _ _ _ _ _) Try.underlying158 rfl (by kernel_rfl)) rfl ⟨?_, below6 HBB.out (by omega) _ _ _ _ _ _⟩
    rw [show pun2 u x g d = (0, u, x, g, d, true) by unfold pun2; rw [if_neg (by rw [HV.out]; simp), if_pos hq], rv_eq]
  · go_enter Try.func137, Try.ntmps137
    go_wp2_with fail
    refine C.out.mono ?_
    rintro e w1 ⟨rfl, hb⟩
    have s1 : w.heap.size + 1 < w1.heap.size := by have := hb.size; simp at this; omega
    have k1 := (hb.block w.heap.size (by simp; omega)).trans K1.out
    have k2 := (hb.block (w.heap.size + 1) (by simp)).trans K2.out
    have HB := Lib.hid (B2.out.trans (hb.mono (by simp; omega)))
    have q0 := cell_of_row w1 _ 0 _ _ _ k1
    have q1 := cell_of_row w1 _ 1 _ _ _ k1
    have q2 := cell_of_row w1 _ 2 _ _ _ k1
    have q3 := cell_of_row w1 _ 3 _ _ _ k1
    simp at q0 q1 q2 q3
    have k2' := Lib.hid k2
    have HB1 := Lib.hid HB.out
    clear hb k1 k2 C K1 K2 HB
    go_wp2_with fail
    refine (ledgerOf_any u x g d _).mono ?_
    rintro e w2 ⟨rfl, hb⟩
    have s2 : w1.heap.size ≤ w2.heap.size := hb.size
    have HB2 := Lib.hid ((HB1.out.trans (hb.mono (by omega))).alloc (by omega) (.cells #[.int .i64 u, .int .i64 1000000, .int .i64 x, .int .i64 1000000, .int .i64 g, .int .i64 1000000, .int .i64 d, .int .i64 3] 122))
    have HK2 := Lib.hid ((Below.heap_alloc w2 (.cells #[.int .i64 u, .int .i64 1000000, .int .i64 x, .int .i64 1000000, .int .i64 g, .int .i64 1000000, .int .i64 d, .int .i64 3] 122) (w.heap.size + 1) (by omega)).trans ((hb.block (w.heap.size + 1) s1).trans k2'.out))
    have HL := Lib.hid (heap_alloc_new w2 (.cells #[.int .i64 u, .int .i64 1000000, .int .i64 x, .int .i64 1000000, .int .i64 g, .int .i64 1000000, .int .i64 d, .int .i64 3] 122))
    clear hb k2' HB1
    go_wp2_with fail
    refine (punish_room w2.heap.size 6 d 3 _ (by omega) (by omega) (cell_of_row _ _ 6 _ _ _ HL.out) (cell_of_row _ _ 7 _ _ _ HL.out) (frozen_of_row _ _ 6 _ _ HL.out) (by omega)).mono ?_
    rintro e w4 ⟨rfl, n, hw4⟩
    have k4 : w4.heap[w2.heap.size]? = some (.cells #[.int .i64 u, .int .i64 1000000, .int .i64 x, .int .i64 1000000, .int .i64 g, .int .i64 1000000, .int .i64 (d + 1), .int .i64 3] 122 (0, 0)) := by rw [hw4]; exact heap_setCell_same (w2.alloc (.cells #[.int .i64 u, .int .i64 1000000, .int .i64 x, .int .i64 1000000, .int .i64 g, .int .i64 1000000, .int .i64 d, .int .i64 3] 122)) w2.heap.size 6 _ _ _ HL.out
    have k2 : w4.heap[w.heap.size + 1]? = some (.cells #[.int .i64 0, .int .i64 0, .int .i64 0, .int .i64 0, .int .i64 0, .bool false] 158 (0, 0)) := by rw [hw4]; exact (Below.heap_setCell (w2.alloc (.cells #[.int .i64 u, .int .i64 1000000, .int .i64 x, .int .i64 1000000, .int .i64 g, .int .i64 1000000, .int .i64 d, .int .i64 3] 122)) ⟨w2.heap.size, 6, none⟩ _ (w.heap.size + 1) (by simp; omega)).trans HK2.out
    have HB := Lib.hid (show Below w.heap.size w w4 by rw [hw4]; exact below_drewN (HB2.out.setCell (p := ⟨w2.heap.size, 6, none⟩) (by simp; omega) _) n)
    have s4 : w2.heap.size < w4.heap.size := (Array.getElem?_eq_some_iff.1 k4).1
    have c0 := cell_of_row w4 _ 0 _ _ _ k4
    have c1 := cell_of_row w4 _ 1 _ _ _ k4
    have c2 := cell_of_row w4 _ 2 _ _ _ k4
    have c3 := cell_of_row w4 _ 3 _ _ _ k4
    have c4 := cell_of_row w4 _ 4 _ _ _ k4
    have c5 := cell_of_row w4 _ 5 _ _ _ k4
    have c6 := cell_of_row w4 _ 6 _ _ _ k4
    have c7 := cell_of_row w4 _ 7 _ _ _ k4
    simp at c0 c1 c2 c3 c4 c5 c6 c7
    have HK4 := Lib.hid k2
    clear hw4 k4 k2 HB2 HK2 HL
    go_wp2_with fail
    refine (account_any u x g (d + 1) 1000000 1000000 1000000 3 _).mono ?_
    rintro e w5 ⟨rfl, hb⟩
    have k2 := (hb.block (w.heap.size + 1) (by omega)).trans HK4.out
    have HBB := Lib.hid (HB.out.trans (hb.mono (by omega)))
    have r0 := cell_of_row w5 _ 0 _ _ _ k2
    have e0 := frozen_of_row w5 _ 0 _ _ k2
    have r1 := cell_of_row w5 _ 1 _ _ _ k2
    have e1 := frozen_of_row w5 _ 1 _ _ k2
    have r2 := cell_of_row w5 _ 2 _ _ _ k2
    have e2 := frozen_of_row w5 _ 2 _ _ k2
    have r3 := cell_of_row w5 _ 3 _ _ _ k2
    have e3 := frozen_of_row w5 _ 3 _ _ k2
    have r4 := cell_of_row w5 _ 4 _ _ _ k2
    have e4 := frozen_of_row w5 _ 4 _ _ k2
    have r5 := cell_of_row w5 _ 5 _ _ _ k2
    have e5 := frozen_of_row w5 _ 5 _ _ k2
    simp at r0 r1 r2 r3 r4 r5
    have HK := Lib.hid k2
    clear hb k2 HK4
    go_wp2
    refine bodyPost_ret (results_cell_row rfl _ _ (w.heap.size + 1) _ _ (0, 0) _ rfl (blk6_set HK.out _ _ _ _ _ _) Try.underlying158 rfl (by kernel_rfl)) rfl ⟨?_, below6 HBB.out (by omega) _ _ _ _ _ _⟩
    rw [show pun2 u x g d = (0, u, x, g, d + 1, false) by unfold pun2; rw [if_neg (by rw [HV.out]; simp), if_neg (by omega)], rv_eq]

theorem implSkipAccount_any (u x g d : Int) (w : World) :
    Calls Try.prog 136 #[.agg #[.int .i64 u, .int .i64 x, .int .i64 g, .int .i64 d]] w fun e w' => e = .returned (rv (skip2 u x g d)) ∧ Below w.heap.size w w' := by
  have B2 : Hid (Below w.heap.size w ((w.alloc (.cells #[.int .i64 u, .int .i64 x, .int .i64 g, .int .i64 d] 68)).alloc (.cells #[.int .i64 0, .int .i64 0, .int .i64 0, .int .i64 0, .int .i64 0, .bool false] 158))) := (below_new w _).alloc (by simp) _
  have K1 : Hid (((w.alloc (.cells #[.int .i64 u, .int .i64 x, .int .i64 g, .int .i64 d] 68)).alloc (.cells #[.int .i64 0, .int .i64 0, .int .i64 0, .int .i64 0, .int .i64 0, .bool false] 158)).heap[w.heap.size]? = some (.cells #[.int .i64 u, .int .i64 x, .int .i64 g, .int .i64 d] 68 (0, 0))) := heap_alloc2_old w _ _
  have K2 : Hid (((w.alloc (.cells #[.int .i64 u, .int .i64 x, .int .i64 g, .int .i64 d] 68)).alloc (.cells #[.int .i64 0, .int .i64 0, .int .i64 0, .int .i64 0, .int .i64 0, .bool false] 158)).heap[w.heap.size + 1]? = some (.cells #[.int .i64 0, .int .i64 0, .int .i64 0, .int .i64 0, .int .i64 0, .bool false] 158 (0, 0))) := heap_alloc2_new w _ _
  have C := Lib.hid (implAccountFault_any u x g d ((w.alloc (.cells #[.int .i64 u, .int .i64 x, .int .i64 g, .int .i64 d] 68)).alloc (.cells #[.int .i64 0, .int .i64 0, .int .i64 0, .int .i64 0, .int .i64 0, .bool false] 158)))
  by_cases hv : af u x g d = 0
  case neg =>
    have hv' : (af u x g d != 0) = true := by simp [hv]
    have HV := Lib.hid hv
    clear hv
    go_enter Try.func136, Try.ntmps136
    go_wp2_with fail
    refine C.out.mono ?_
    rintro e w1 ⟨rfl, hb⟩
    have s1 : w.heap.size + 1 < w1.heap.size := by have := hb.size; simp at this; omega
    have k1 := (hb.block w.heap.size (by simp; omega)).trans K1.out
    have k2 := (hb.block (w.heap.size + 1) (by simp)).trans K2.out
    have HB := Lib.hid (B2.out.trans (hb.mono (by simp; omega)))
    have q0 := cell_of_row w1 _ 0 _ _ _ k1
    have q1 := cell_of_row w1 _ 1 _ _ _ k1
    have q2 := cell_of_row w1 _ 2 _ _ _ k1
    have q3 := cell_of_row w1 _ 3 _ _ _ k1
    simp at q0 q1 q2 q3
    have r0 := cell_of_row w1 _ 0 _ _ _ k2
    have e0 := frozen_of_row w1 _ 0 _ _ k2
    have r1 := cell_of_row w1 _ 1 _ _ _ k2
    have e1 := frozen_of_row w1 _ 1 _ _ k2
    have r2 := cell_of_row w1 _ 2 _ _ _ k2
    have e2 := frozen_of_row w1 _ 2 _ _ k2
    have r3 := cell_of_row w1 _ 3 _ _ _ k2
    have e3 := frozen_of_row w1 _ 3 _ _ k2
    have r4 := cell_of_row w1 _ 4 _ _ _ k2
    have e4 := frozen_of_row w1 _ 4 _ _ k2
    have r5 := cell_of_row w1 _ 5 _ _ _ k2
    have e5 := frozen_of_row w1 _ 5 _ _ k2
    simp at r0 r1 r2 r3 r4 r5
    have HK := Lib.hid k2
    clear hb k1 k2 C K1 K2
    go_wp2
    refine bodyPost_ret (results_cell_row rfl _ _ (w.heap.size + 1) _ _ (0, 0) _ rfl (blk6_set HK.out _ _ _ _ _ _) Try.underlying158 rfl (by kernel_rfl)) rfl ⟨?_, below6 HB.out (by omega) _ _ _ _ _ _⟩
    rw [show skip2 u x g d = (af u x g d, 0, 0, 0, 0, false) by unfold skip2; rw [if_pos HV.out], rv_eq]
  have hv' : (af u x g d != 0) = false := by simp [hv]
  obtain ⟨⟨u0, u1⟩, ⟨x0, x1⟩, ⟨g0, g1⟩, ⟨d0, d1⟩⟩ := af_zero hv
  have HV := Lib.hid hv
  clear hv
  by_cases hq : d ≤ 0
  · go_enter Try.func136, Try.ntmps136
    go_wp2_with fail
    refine C.out.mono ?_
    rintro e w1 ⟨rfl, hb⟩
    have s1 : w.heap.size + 1 < w1.heap.size := by have := hb.size; simp at this; omega
    have k1 := (hb.block w.heap.size (by simp; omega)).trans K1.out
    have k2 := (hb.block (w.heap.size + 1) (by simp)).trans K2.out
    have HB := Lib.hid (B2.out.trans (hb.mono (by simp; omega)))
    have q0 := cell_of_row w1 _ 0 _ _ _ k1
    have q1 := cell_of_row w1 _ 1 _ _ _ k1
    have q2 := cell_of_row w1 _ 2 _ _ _ k1
    have q3 := cell_of_row w1 _ 3 _ _ _ k1
    simp at q0 q1 q2 q3
    have k2' := Lib.hid k2
    have HB1 := Lib.hid HB.out
    clear hb k1 k2 C K1 K2 HB
    go_wp2_with fail
    refine (ledgerOf_any u x g d _).mono ?_
    rintro e w2 ⟨rfl, hb⟩
    have s2 : w1.heap.size ≤ w2.heap.size := hb.size
    have HB2 := Lib.hid ((HB1.out.trans (hb.mono (by omega))).alloc (by omega) (.cells #[.int .i64 u, .int .i64 1000000, .int .i64 x, .int .i64 1000000, .int .i64 g, .int .i64 1000000, .int .i64 d, .int .i64 3] 122))
    have HK2 := Lib.hid ((Below.heap_alloc w2 (.cells #[.int .i64 u, .int .i64 1000000, .int .i64 x, .int .i64 1000000, .int .i64 g, .int .i64 1000000, .int .i64 d, .int .i64 3] 122) (w.heap.size + 1) (by omega)).trans ((hb.block (w.heap.size + 1) s1).trans k2'.out))
    have HL := Lib.hid (heap_alloc_new w2 (.cells #[.int .i64 u, .int .i64 1000000, .int .i64 x, .int .i64 1000000, .int .i64 g, .int .i64 1000000, .int .i64 d, .int .i64 3] 122))
    clear hb k2' HB1
    go_wp2_with fail
    refine (skipm_none w2.heap.size 6 d _ hq (cell_of_row _ _ 6 _ _ _ HL.out)).mono ?_
    rintro e w4 ⟨rfl, n, hw4⟩
    have k4 : w4.heap[w2.heap.size]? = some (.cells #[.int .i64 u, .int .i64 1000000, .int .i64 x, .int .i64 1000000, .int .i64 g, .int .i64 1000000, .int .i64 d, .int .i64 3] 122 (0, 0)) := by rw [hw4]; exact HL.out
    have k2 : w4.heap[w.heap.size + 1]? = some (.cells #[.int .i64 0, .int .i64 0, .int .i64 0, .int .i64 0, .int .i64 0, .bool false] 158 (0, 0)) := by rw [hw4]; exact HK2.out
    have HB := Lib.hid (show Below w.heap.size w w4 by rw [hw4]; exact below_drewN HB2.out n)
    have s4 : w2.heap.size < w4.heap.size := (Array.getElem?_eq_some_iff.1 k4).1
    have c0 := cell_of_row w4 _ 0 _ _ _ k4
    have c1 := cell_of_row w4 _ 1 _ _ _ k4
    have c2 := cell_of_row w4 _ 2 _ _ _ k4
    have c3 := cell_of_row w4 _ 3 _ _ _ k4
    have c4 := cell_of_row w4 _ 4 _ _ _ k4
    have c5 := cell_of_row w4 _ 5 _ _ _ k4
    have c6 := cell_of_row w4 _ 6 _ _ _ k4
    have c7 := cell_of_row w4 _ 7 _ _ _ k4
    simp at c0 c1 c2 c3 c4 c5 c6 c7
    have HK4 := Lib.hid k2
    clear hw4 k4 k2 HB2 HK2 HL
    go_wp2_with fail
    refine (answer_bad 4 u x g d 1000000 1000000 1000000 3 _ rfl).mono ?_
    rintro e w5 ⟨rfl, hb⟩
    have k2 := (hb.block (w.heap.size + 1) (by omega)).trans HK4.out
    have HBB := Lib.hid (HB.out.trans (hb.mono (by omega)))
    have r0 := cell_of_row w5 _ 0 _ _ _ k2
    have e0 := frozen_of_row w5 _ 0 _ _ k2
    have r1 := cell_of_row w5 _ 1 _ _ _ k2
    have e1 := frozen_of_row w5 _ 1 _ _ k2
    have r2 := cell_of_row w5 _ 2 _ _ _ k2
    have e2 := frozen_of_row w5 _ 2 _ _ k2
    have r3 := cell_of_row w5 _ 3 _ _ _ k2
    have e3 := frozen_of_row w5 _ 3 _ _ k2
    have r4 := cell_of_row w5 _ 4 _ _ _ k2
    have e4 := frozen_of_row w5 _ 4 _ _ k2
    have r5 := cell_of_row w5 _ 5 _ _ _ k2
    have e5 := frozen_of_row w5 _ 5 _ _ k2
    simp at r0 r1 r2 r3 r4 r5
    have HK := Lib.hid k2
    clear hb k2 HK4
    go_wp2
    refine bodyPost_ret (results_cell_row rfl _ _ (w.heap.size + 1) _ _ (0, 0) _ rfl (blk6_set HK.out _ _ _ _ _ _) Try.underlying158 rfl (by kernel_rfl)) rfl ⟨?_, below6 HBB.out (by omega) _ _ _ _ _ _⟩
    rw [show skip2 u x g d = (4, 0, 0, 0, 0, false) by unfold skip2; rw [if_neg (by rw [HV.out]; simp), if_pos (by omega)], rv_eq]
  · go_enter Try.func136, Try.ntmps136
    go_wp2_with fail
    refine C.out.mono ?_
    rintro e w1 ⟨rfl, hb⟩
    have s1 : w.heap.size + 1 < w1.heap.size := by have := hb.size; simp at this; omega
    have k1 := (hb.block w.heap.size (by simp; omega)).trans K1.out
    have k2 := (hb.block (w.heap.size + 1) (by simp)).trans K2.out
    have HB := Lib.hid (B2.out.trans (hb.mono (by simp; omega)))
    have q0 := cell_of_row w1 _ 0 _ _ _ k1
    have q1 := cell_of_row w1 _ 1 _ _ _ k1
    have q2 := cell_of_row w1 _ 2 _ _ _ k1
    have q3 := cell_of_row w1 _ 3 _ _ _ k1
    simp at q0 q1 q2 q3
    have k2' := Lib.hid k2
    have HB1 := Lib.hid HB.out
    clear hb k1 k2 C K1 K2 HB
    go_wp2_with fail
    refine (ledgerOf_any u x g d _).mono ?_
    rintro e w2 ⟨rfl, hb⟩
    have s2 : w1.heap.size ≤ w2.heap.size := hb.size
    have HB2 := Lib.hid ((HB1.out.trans (hb.mono (by omega))).alloc (by omega) (.cells #[.int .i64 u, .int .i64 1000000, .int .i64 x, .int .i64 1000000, .int .i64 g, .int .i64 1000000, .int .i64 d, .int .i64 3] 122))
    have HK2 := Lib.hid ((Below.heap_alloc w2 (.cells #[.int .i64 u, .int .i64 1000000, .int .i64 x, .int .i64 1000000, .int .i64 g, .int .i64 1000000, .int .i64 d, .int .i64 3] 122) (w.heap.size + 1) (by omega)).trans ((hb.block (w.heap.size + 1) s1).trans k2'.out))
    have HL := Lib.hid (heap_alloc_new w2 (.cells #[.int .i64 u, .int .i64 1000000, .int .i64 x, .int .i64 1000000, .int .i64 g, .int .i64 1000000, .int .i64 d, .int .i64 3] 122))
    clear hb k2' HB1
    go_wp2_with fail
    refine (skipm_any w2.heap.size 6 d _ (by omega) (by omega) (cell_of_row _ _ 6 _ _ _ HL.out) (frozen_of_row _ _ 6 _ _ HL.out)).mono ?_
    rintro e w4 ⟨rfl, n, hw4⟩
    have k4 : w4.heap[w2.heap.size]? = some (.cells #[.int .i64 u, .int .i64 1000000, .int .i64 x, .int .i64 1000000, .int .i64 g, .int .i64 1000000, .int .i64 (d - 1), .int .i64 3] 122 (0, 0)) := by rw [hw4]; exact heap_setCell_same (w2.alloc (.cells #[.int .i64 u, .int .i64 1000000, .int .i64 x, .int .i64 1000000, .int .i64 g, .int .i64 1000000, .int .i64 d, .int .i64 3] 122)) w2.heap.size 6 _ _ _ HL.out
    have k2 : w4.heap[w.heap.size + 1]? = some (.cells #[.int .i64 0, .int .i64 0, .int .i64 0, .int .i64 0, .int .i64 0, .bool false] 158 (0, 0)) := by rw [hw4]; exact (Below.heap_setCell (w2.alloc (.cells #[.int .i64 u, .int .i64 1000000, .int .i64 x, .int .i64 1000000, .int .i64 g, .int .i64 1000000, .int .i64 d, .int .i64 3] 122)) ⟨w2.heap.size, 6, none⟩ _ (w.heap.size + 1) (by simp; omega)).trans HK2.out
    have HB := Lib.hid (show Below w.heap.size w w4 by rw [hw4]; exact below_drewN (HB2.out.setCell (p := ⟨w2.heap.size, 6, none⟩) (by simp; omega) _) n)
    have s4 : w2.heap.size < w4.heap.size := (Array.getElem?_eq_some_iff.1 k4).1
    have c0 := cell_of_row w4 _ 0 _ _ _ k4
    have c1 := cell_of_row w4 _ 1 _ _ _ k4
    have c2 := cell_of_row w4 _ 2 _ _ _ k4
    have c3 := cell_of_row w4 _ 3 _ _ _ k4
    have c4 := cell_of_row w4 _ 4 _ _ _ k4
    have c5 := cell_of_row w4 _ 5 _ _ _ k4
    have c6 := cell_of_row w4 _ 6 _ _ _ k4
    have c7 := cell_of_row w4 _ 7 _ _ _ k4
    simp at c0 c1 c2 c3 c4 c5 c6 c7
    have HK4 := Lib.hid k2
    clear hw4 k4 k2 HB2 HK2 HL
    go_wp2_with fail
    refine (answer_ok u x g (d - 1) 1000000 1000000 1000000 3 _).mono ?_
    rintro e w5 ⟨rfl, hb⟩
    have k2 := (hb.block (w.heap.size + 1) (by omega)).trans HK4.out
    have HBB := Lib.hid (HB.out.trans (hb.mono (by omega)))
    have r0 := cell_of_row w5 _ 0 _ _ _ k2
    have e0 := frozen_of_row w5 _ 0 _ _ k2
    have r1 := cell_of_row w5 _ 1 _ _ _ k2
    have e1 := frozen_of_row w5 _ 1 _ _ k2
    have r2 := cell_of_row w5 _ 2 _ _ _ k2
    have e2 := frozen_of_row w5 _ 2 _ _ k2
    have r3 := cell_of_row w5 _ 3 _ _ _ k2
    have e3 := frozen_of_row w5 _ 3 _ _ k2
    have r4 := cell_of_row w5 _ 4 _ _ _ k2
    have e4 := frozen_of_row w5 _ 4 _ _ k2
    have r5 := cell_of_row w5 _ 5 _ _ _ k2
    have e5 := frozen_of_row w5 _ 5 _ _ k2
    simp at r0 r1 r2 r3 r4 r5
    have HK := Lib.hid k2
    clear hb k2 HK4
    go_wp2
    refine bodyPost_ret (results_cell_row rfl _ _ (w.heap.size + 1) _ _ (0, 0) _ rfl (blk6_set HK.out _ _ _ _ _ _) Try.underlying158 rfl (by kernel_rfl)) rfl ⟨?_, below6 HBB.out (by omega) _ _ _ _ _ _⟩
    rw [show skip2 u x g d = (0, u, x, g, d - 1, false) by unfold skip2; rw [if_neg (by rw [HV.out]; simp), if_neg (by omega)], rv_eq]

end Go.Proofs.Yteigjjgekkcfkaa
