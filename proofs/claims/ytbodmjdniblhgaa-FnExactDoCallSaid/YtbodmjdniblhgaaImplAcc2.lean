/-
  The program's functions of chapter 2: what each answers, for every account: the same plain functions as the model's. No conditions.
-/
import Derived.Test.YtbodmjdniblhgaaImplAcc2b
namespace Go.Proofs.Ytbodmjdniblhgaa
open Go.RowKit

theorem led_cells {W1 : World} {s : Nat} {u x g d : Int} {t : TypeId} (hk : W1.heap[s]? = some (.cells #[.int .i64 u, .int .i64 1000000, .int .i64 x, .int .i64 1000000, .int .i64 g, .int .i64 1000000, .int .i64 d, .int .i64 3] t (0, 0))) : ∀ W, Below (s + 1) W1 W → (W.cell? ⟨s, 0, none⟩ = some (.int .i64 u) ∧ W.cell? ⟨s, 1, none⟩ = some (.int .i64 1000000) ∧ W.cell? ⟨s, 2, none⟩ = some (.int .i64 x) ∧ W.cell? ⟨s, 3, none⟩ = some (.int .i64 1000000) ∧ W.cell? ⟨s, 4, none⟩ = some (.int .i64 g) ∧ W.cell? ⟨s, 5, none⟩ = some (.int .i64 1000000) ∧ W.cell? ⟨s, 6, none⟩ = some (.int .i64 d) ∧ W.cell? ⟨s, 7, none⟩ = some (.int .i64 3)) := fun W hB => ⟨cell_of_row W s 0 _ _ _ ((hB.block s (by omega)).trans hk), cell_of_row W s 1 _ _ _ ((hB.block s (by omega)).trans hk), cell_of_row W s 2 _ _ _ ((hB.block s (by omega)).trans hk), cell_of_row W s 3 _ _ _ ((hB.block s (by omega)).trans hk), cell_of_row W s 4 _ _ _ ((hB.block s (by omega)).trans hk), cell_of_row W s 5 _ _ _ ((hB.block s (by omega)).trans hk), cell_of_row W s 6 _ _ _ ((hB.block s (by omega)).trans hk), cell_of_row W s 7 _ _ _ ((hB.block s (by omega)).trans hk)⟩

theorem implAccountFault_any (u x g d : Int) (w : World) :
    Calls Try.prog 71 #[.agg #[.int .i64 u, .int .i64 x, .int .i64 g, .int .i64 d]] w fun e w' => e = .returned (.int .i64 (af u x g d)) ∧ Below w.heap.size w w' := by
  have B1 := Lib.hid (below_new w (.cells #[.int .i64 u, .int .i64 x, .int .i64 g, .int .i64 d] 75))
  have FIN : ∀ (b0 b1 b2 b3 : Bool), inR 0 1000000 u = b0 → inR 0 1000000 x = b1 → inR 0 1000000 g = b2 → inR 0 3 d = b3 → Calls Try.prog 71 #[.agg #[.int .i64 u, .int .i64 x, .int .i64 g, .int .i64 d]] w fun e w' => e = .returned (.int .i64 (if b0 && b1 && b2 && b3 then 0 else 3)) ∧ Below w.heap.size w w' := by
    intro b0 b1 b2 b3 i0 i1 i2 i3
    have CA := fits_any u 1000000; have CB := fits_any x 1000000; have CC := fits_any g 1000000; have CD := fits_any d 3
    rw [i0] at CA; rw [i1] at CB; rw [i2] at CC; rw [i3] at CD
    clear i0 i1 i2 i3
    have HA := Lib.hid CA; have HB := Lib.hid CB; have HC := Lib.hid CC; have HD := Lib.hid CD
    clear CA CB CC CD
    rcases b0 with _ | _
    · go_enter Try.func71, Try.ntmps71
      go_wp2_with fail
      refine (ledgerOf_any u x g d _).mono ?_
      rintro e w1 ⟨rfl, hb⟩
      have hs : w.heap.size < w1.heap.size := by have := hb.size; simp at this; omega
      have BL := Lib.hid ((B1.out.trans (hb.mono (by simp))).alloc (by omega) (.cells #[.int .i64 u, .int .i64 1000000, .int .i64 x, .int .i64 1000000, .int .i64 g, .int .i64 1000000, .int .i64 d, .int .i64 3] 117))
      have KC := Lib.hid (led_cells (heap_alloc_new w1 (.cells #[.int .i64 u, .int .i64 1000000, .int .i64 x, .int .i64 1000000, .int .i64 g, .int .i64 1000000, .int .i64 d, .int .i64 3] 117)))
      have R := Lib.hid (Below.refl (w1.heap.size + 1) (w1.alloc (.cells #[.int .i64 u, .int .i64 1000000, .int .i64 x, .int .i64 1000000, .int .i64 g, .int .i64 1000000, .int .i64 d, .int .i64 3] 117)))
      clear hb
      go_wp2_with fail
      refine (HA.out _).mono ?_
      rintro e wnHA ⟨rfl, hb⟩
      have R := Lib.hid (R.out.trans (hb.mono (by have := R.out.size; first | (simp at this ⊢; omega) | simp | omega)))
      obtain ⟨q0, q1, q2, q3, q4, q5, q6, q7⟩ := KC.out _ R.out
      clear hb
      go_wp2
      go_ret
      exact ⟨rfl, BL.out.trans (R.out.mono (by omega))⟩
    · rcases b1 with _ | _
      · go_enter Try.func71, Try.ntmps71
        go_wp2_with fail
        refine (ledgerOf_any u x g d _).mono ?_
        rintro e w1 ⟨rfl, hb⟩
        have hs : w.heap.size < w1.heap.size := by have := hb.size; simp at this; omega
        have BL := Lib.hid ((B1.out.trans (hb.mono (by simp))).alloc (by omega) (.cells #[.int .i64 u, .int .i64 1000000, .int .i64 x, .int .i64 1000000, .int .i64 g, .int .i64 1000000, .int .i64 d, .int .i64 3] 117))
        have KC := Lib.hid (led_cells (heap_alloc_new w1 (.cells #[.int .i64 u, .int .i64 1000000, .int .i64 x, .int .i64 1000000, .int .i64 g, .int .i64 1000000, .int .i64 d, .int .i64 3] 117)))
        have R := Lib.hid (Below.refl (w1.heap.size + 1) (w1.alloc (.cells #[.int .i64 u, .int .i64 1000000, .int .i64 x, .int .i64 1000000, .int .i64 g, .int .i64 1000000, .int .i64 d, .int .i64 3] 117)))
        clear hb
        go_wp2_with fail
        refine (HA.out _).mono ?_
        rintro e wnHA ⟨rfl, hb⟩
        have R := Lib.hid (R.out.trans (hb.mono (by have := R.out.size; first | (simp at this ⊢; omega) | simp | omega)))
        obtain ⟨q0, q1, q2, q3, q4, q5, q6, q7⟩ := KC.out _ R.out
        clear hb
        go_wp2_with fail
        refine (HB.out _).mono ?_
        rintro e wnHB ⟨rfl, hb⟩
        have R := Lib.hid (R.out.trans (hb.mono (by have := R.out.size; first | (simp at this ⊢; omega) | simp | omega)))
        obtain ⟨q0, q1, q2, q3, q4, q5, q6, q7⟩ := KC.out _ R.out
        clear hb
        go_wp2
        go_ret
        exact ⟨rfl, BL.out.trans (R.out.mono (by omega))⟩
      · rcases b2 with _ | _
        · go_enter Try.func71, Try.ntmps71
          go_wp2_with fail
          refine (ledgerOf_any u x g d _).mono ?_
          rintro e w1 ⟨rfl, hb⟩
          have hs : w.heap.size < w1.heap.size := by have := hb.size; simp at this; omega
          have BL := Lib.hid ((B1.out.trans (hb.mono (by simp))).alloc (by omega) (.cells #[.int .i64 u, .int .i64 1000000, .int .i64 x, .int .i64 1000000, .int .i64 g, .int .i64 1000000, .int .i64 d, .int .i64 3] 117))
          have KC := Lib.hid (led_cells (heap_alloc_new w1 (.cells #[.int .i64 u, .int .i64 1000000, .int .i64 x, .int .i64 1000000, .int .i64 g, .int .i64 1000000, .int .i64 d, .int .i64 3] 117)))
          have R := Lib.hid (Below.refl (w1.heap.size + 1) (w1.alloc (.cells #[.int .i64 u, .int .i64 1000000, .int .i64 x, .int .i64 1000000, .int .i64 g, .int .i64 1000000, .int .i64 d, .int .i64 3] 117)))
          clear hb
          go_wp2_with fail
          refine (HA.out _).mono ?_
          rintro e wnHA ⟨rfl, hb⟩
          have R := Lib.hid (R.out.trans (hb.mono (by have := R.out.size; first | (simp at this ⊢; omega) | simp | omega)))
          obtain ⟨q0, q1, q2, q3, q4, q5, q6, q7⟩ := KC.out _ R.out
          clear hb
          go_wp2_with fail
          refine (HB.out _).mono ?_
          rintro e wnHB ⟨rfl, hb⟩
          have R := Lib.hid (R.out.trans (hb.mono (by have := R.out.size; first | (simp at this ⊢; omega) | simp | omega)))
          obtain ⟨q0, q1, q2, q3, q4, q5, q6, q7⟩ := KC.out _ R.out
          clear hb
          go_wp2_with fail
          refine (HC.out _).mono ?_
          rintro e wnHC ⟨rfl, hb⟩
          have R := Lib.hid (R.out.trans (hb.mono (by have := R.out.size; first | (simp at this ⊢; omega) | simp | omega)))
          obtain ⟨q0, q1, q2, q3, q4, q5, q6, q7⟩ := KC.out _ R.out
          clear hb
          go_wp2
          go_ret
          exact ⟨rfl, BL.out.trans (R.out.mono (by omega))⟩
        · rcases b3 with _ | _
          · go_enter Try.func71, Try.ntmps71
            go_wp2_with fail
            refine (ledgerOf_any u x g d _).mono ?_
            rintro e w1 ⟨rfl, hb⟩
            have hs : w.heap.size < w1.heap.size := by have := hb.size; simp at this; omega
            have BL := Lib.hid ((B1.out.trans (hb.mono (by simp))).alloc (by omega) (.cells #[.int .i64 u, .int .i64 1000000, .int .i64 x, .int .i64 1000000, .int .i64 g, .int .i64 1000000, .int .i64 d, .int .i64 3] 117))
            have KC := Lib.hid (led_cells (heap_alloc_new w1 (.cells #[.int .i64 u, .int .i64 1000000, .int .i64 x, .int .i64 1000000, .int .i64 g, .int .i64 1000000, .int .i64 d, .int .i64 3] 117)))
            have R := Lib.hid (Below.refl (w1.heap.size + 1) (w1.alloc (.cells #[.int .i64 u, .int .i64 1000000, .int .i64 x, .int .i64 1000000, .int .i64 g, .int .i64 1000000, .int .i64 d, .int .i64 3] 117)))
            clear hb
            go_wp2_with fail
            refine (HA.out _).mono ?_
            rintro e wnHA ⟨rfl, hb⟩
            have R := Lib.hid (R.out.trans (hb.mono (by have := R.out.size; first | (simp at this ⊢; omega) | simp | omega)))
            obtain ⟨q0, q1, q2, q3, q4, q5, q6, q7⟩ := KC.out _ R.out
            clear hb
            go_wp2_with fail
            refine (HB.out _).mono ?_
            rintro e wnHB ⟨rfl, hb⟩
            have R := Lib.hid (R.out.trans (hb.mono (by have := R.out.size; first | (simp at this ⊢; omega) | simp | omega)))
            obtain ⟨q0, q1, q2, q3, q4, q5, q6, q7⟩ := KC.out _ R.out
            clear hb
            go_wp2_with fail
            refine (HC.out _).mono ?_
            rintro e wnHC ⟨rfl, hb⟩
            have R := Lib.hid (R.out.trans (hb.mono (by have := R.out.size; first | (simp at this ⊢; omega) | simp | omega)))
            obtain ⟨q0, q1, q2, q3, q4, q5, q6, q7⟩ := KC.out _ R.out
            clear hb
            go_wp2_with fail
            refine (HD.out _).mono ?_
            rintro e wnHD ⟨rfl, hb⟩
            have R := Lib.hid (R.out.trans (hb.mono (by have := R.out.size; first | (simp at this ⊢; omega) | simp | omega)))
            obtain ⟨q0, q1, q2, q3, q4, q5, q6, q7⟩ := KC.out _ R.out
            clear hb
            go_wp2
            go_ret
            exact ⟨rfl, BL.out.trans (R.out.mono (by omega))⟩
          · go_enter Try.func71, Try.ntmps71
            go_wp2_with fail
            refine (ledgerOf_any u x g d _).mono ?_
            rintro e w1 ⟨rfl, hb⟩
            have hs : w.heap.size < w1.heap.size := by have := hb.size; simp at this; omega
            have BL := Lib.hid ((B1.out.trans (hb.mono (by simp))).alloc (by omega) (.cells #[.int .i64 u, .int .i64 1000000, .int .i64 x, .int .i64 1000000, .int .i64 g, .int .i64 1000000, .int .i64 d, .int .i64 3] 117))
            have KC := Lib.hid (led_cells (heap_alloc_new w1 (.cells #[.int .i64 u, .int .i64 1000000, .int .i64 x, .int .i64 1000000, .int .i64 g, .int .i64 1000000, .int .i64 d, .int .i64 3] 117)))
            have R := Lib.hid (Below.refl (w1.heap.size + 1) (w1.alloc (.cells #[.int .i64 u, .int .i64 1000000, .int .i64 x, .int .i64 1000000, .int .i64 g, .int .i64 1000000, .int .i64 d, .int .i64 3] 117)))
            clear hb
            go_wp2_with fail
            refine (HA.out _).mono ?_
            rintro e wnHA ⟨rfl, hb⟩
            have R := Lib.hid (R.out.trans (hb.mono (by have := R.out.size; first | (simp at this ⊢; omega) | simp | omega)))
            obtain ⟨q0, q1, q2, q3, q4, q5, q6, q7⟩ := KC.out _ R.out
            clear hb
            go_wp2_with fail
            refine (HB.out _).mono ?_
            rintro e wnHB ⟨rfl, hb⟩
            have R := Lib.hid (R.out.trans (hb.mono (by have := R.out.size; first | (simp at this ⊢; omega) | simp | omega)))
            obtain ⟨q0, q1, q2, q3, q4, q5, q6, q7⟩ := KC.out _ R.out
            clear hb
            go_wp2_with fail
            refine (HC.out _).mono ?_
            rintro e wnHC ⟨rfl, hb⟩
            have R := Lib.hid (R.out.trans (hb.mono (by have := R.out.size; first | (simp at this ⊢; omega) | simp | omega)))
            obtain ⟨q0, q1, q2, q3, q4, q5, q6, q7⟩ := KC.out _ R.out
            clear hb
            go_wp2_with fail
            refine (HD.out _).mono ?_
            rintro e wnHD ⟨rfl, hb⟩
            have R := Lib.hid (R.out.trans (hb.mono (by have := R.out.size; first | (simp at this ⊢; omega) | simp | omega)))
            obtain ⟨q0, q1, q2, q3, q4, q5, q6, q7⟩ := KC.out _ R.out
            clear hb
            go_wp2
            go_ret
            exact ⟨rfl, BL.out.trans (R.out.mono (by omega))⟩
  have e : af u x g d = if inR 0 1000000 u && inR 0 1000000 x && inR 0 1000000 g && inR 0 3 d then 0 else 3 := by
    unfold af inR
    simp only [← Bool.decide_and, decide_eq_true_eq, and_assoc]
  rw [e]
  exact FIN _ _ _ _ rfl rfl rfl rfl

end Go.Proofs.Ytbodmjdniblhgaa
