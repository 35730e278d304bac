/-
  The marks of lists of lists of one's own. No conditions beyond that.
-/
import Derived.Test.YtaemegkdmbhpnaaMk7
namespace Go.Proofs.Ytaemegkdmbhpnaa
open Go.RowKit
set_option maxRecDepth 100000

theorem pc7_mark {N : Nat} (t : Nat → Int) (B : Nat → Option Addr) (m : Nat → Nat) (k : Nat) (M : Int) : ∀ j, j < N → (if j = k * 2 then Value.int .i64 M else pc7 t B m m j) = pc7 (fun i => if i = k then M else t i) B m m j := by
  intro j _
  by_cases e : j = k * 2
  · subst e
    rw [if_pos rfl, pc7_0, if_pos rfl]
  · rw [if_neg e]
    unfold pc7
    by_cases h : j % 2 = 0
    · rw [if_pos h, if_pos h]
      show _ = Value.int .i64 (if j / 2 = k then M else t (j / 2))
      rw [if_neg (by omega)]
    · rw [if_neg h, if_neg h]

set_option maxHeartbeats 2000000 in
theorem markLockS_any (lo hi g n c : Nat) (t : Nat → Int) (U m : Nat → Nat) (x : Nat → Nat → Int) (M0 : Nat) (w : World) (hn : n ≤ 1048576) (hm : ∀ i, i < n → m i ≤ 1048576) (hM : M0 ≤ 10000000000000) (h : LM w lo hi g n t U m x) :
    Calls Try.prog 101 #[.slice (some ⟨g, 0, none⟩) n c, .int .i64 M0] w fun e w' => ∃ M : Nat, e = .returned (.int .i64 M) ∧ M ≤ M0 + n * 1048577 ∧ Only lo hi w w' := by
  have H := Lib.hid h
  have HM := Lib.hid hm
  have HN := Lib.hid hn
  have H0 := Lib.hid hM
  clear h hm hn hM
  go_enter Try.func101, Try.ntmps101
  go_wp2
  go_loopw [1, 5] (fun q i wr => ∃ k M : Nat, k ≤ n ∧ i = .int .i64 k ∧ q = .int .i64 M ∧ M ≤ M0 + k * 1048577 ∧ (∃ t', Row wr g 0 132 (n * 2) (pc7 t' (bl7 U) m m)) ∧ (∀ i, k ≤ i → i < n → Row wr (U i) 0 2 (m i) (fun k => .int .i64 (x i k))) ∧ Only lo hi w wr) (fun _ i _ => n - (intOf i).toNat)
  case atStart => exact ⟨0, M0, Nat.zero_le _, rfl, rfl, by omega, ⟨t, H.out.row⟩, fun i _ hi => (H.out.qs i hi).2, Only.refl _ _ _⟩
  case round =>
    obtain ⟨k, M, hk, rfl, rfl, hmk, ⟨t', hrow⟩, hqs, hb⟩ := hrel
    have HK := Lib.hid hk
    have HMK := Lib.hid hmk
    by_cases hlt : k < n
    · have wk : IntKind.i64.wrap ((k : Int) + 1) = (k : Int) + 1 := IntWalk.i64_in _ (by have := HN.out; omega)
      have hks : k * 1048577 ≤ 1048576 * 1048577 := Nat.mul_le_mul_right _ (by have := HN.out; omega)
      have wM : IntKind.i64.wrap ((M : Int) + 1) = (M : Int) + 1 := IntWalk.i64_in _ (by have := H0.out; omega)
      have LT := Lib.hid hlt
      have HR := Lib.hid hrow
      have HQ := Lib.hid hqs
      have HB := Lib.hid hb
      have QK := Lib.hid (H.out.qs k hlt).1
      have GL := Lib.hid H.out.gl
      have UP := Lib.hid H.out.up
      have GI : Hid (∀ i, i < n → g < U i ∧ U i < hi) := fun i hi => (H.out.qs i hi).1
      have hmk' := HM.out k hlt
      have CM : Hid (∀ W, Row W (U k) 0 2 (m k) (fun j => .int .i64 (x k j)) → Calls Try.prog 103 #[.slice (some ⟨U k, 0, none⟩) (m k) (m k), .int .i64 ((M : Int) + 1)] W fun e w' => e = .returned (.int .i64 ((M + 1 + m k : Nat) : Int)) ∧ Only (U k) (U k + 1) W w') := fun W hW => by
        have := markInt64S_any (U k) (U k + 1) (some ⟨U k, 0, none⟩) (m k) (m k) (fun j => .int .i64 (x k j)) (M + 1) W (by omega) (by have := H0.out; omega) (fun j _ => ⟨_, rfl⟩) (.inr ⟨U k, 0, rfl, Nat.le_refl _, Nat.lt_succ_self _, hW⟩)
        exact this.mono fun e w' ⟨h1, _, h3⟩ => ⟨h1, h3⟩
      have o0 := hrow.cell (show k * 2 < n * 2 by omega)
      have f0 := hrow.frozen (0 + (k * 2))
      have o1 := hrow.cell (show k * 2 + 1 < n * 2 by omega)
      simp only [Nat.zero_add, Nat.add_zero, pc7_0, pc7_1] at o0 f0 o1
      have R1 := Lib.hid (Row.set hrow (show k * 2 < n * 2 by omega) (.int .i64 (M : Int)))
      have KP : Hid (∀ b, b ≠ g → (wr.setCell ⟨g, 0 + k * 2, none⟩ (.int .i64 (M : Int))).heap[b]? = wr.heap[b]?) := fun b hb => Below.heap_setCell _ _ _ _ (by show b ≠ g; exact hb)
      have OB := Lib.hid (hb.setCell (p := ⟨g, 0 + k * 2, none⟩) GL.out.1 GL.out.2 (.int .i64 (M : Int)))
      rw [Nat.zero_add] at R1 KP OB
      obtain ⟨w1, hw1⟩ : ∃ w1, w1 = wr.setCell ⟨g, k * 2, none⟩ (.int .i64 (M : Int)) := ⟨_, rfl⟩
      have HW1 := Lib.hid hw1
      rw [← hw1] at R1 KP OB
      clear hrow hqs hb hw1 H
      go_upto_region 5 with (fail)
      rw [← HW1.out]
      clear HW1 o0 f0 o1
      have o1 := R1.out.cell (show k * 2 + 1 < n * 2 by have := LT.out; omega)
      simp only [Nat.zero_add, Nat.add_zero, pc7_1] at o1
      rw [if_neg (by omega)] at o1
      go_wp2_with fail
      refine (CM.out w1 ((HQ.out k (Nat.le_refl _) LT.out).keep (KP.out _ (by have := QK.out; omega)))).mono ?_
      rintro e w2 ⟨rfl, ho⟩
      have O2 := Lib.hid ho
      clear ho o1
      go_wp2
      go_roundw
      case rel =>
        have hks := HMK.out
        have hmk' := hmk'
        have e1 := Nat.succ_mul k 1048577
        have G2 : w2.heap[g]? = w1.heap[g]? := O2.out.block R1.out.lt (.inl QK.out.1)
        refine ⟨k + 1, M + 1 + m k, by have := LT.out; omega, by rfl, by rfl, by omega, ?_, fun i hi1 hi2 => ?_, OB.out.trans ⟨O2.out.1.mono (by have := GL.out; have := QK.out; omega), fun b hb hs => O2.out.2 b (by have := QK.out; omega) hs⟩⟩
        · exact ⟨fun i => if i = k then (M : Int) else t' i, (R1.out.keep G2).congr (pc7_mark t' (bl7 U) m k M)⟩
        · have r := (HQ.out i (by omega) hi2).keep (KP.out _ (by have := GI.out i hi2; omega))
          exact r.keep (O2.out.block r.lt (.inr (UP.out k i (by omega) hi2)))
      case measure => have := LT.out; simp [intOf]; omega
    · obtain rfl : n = k := by have := HK.out; omega
      have HB := Lib.hid hb
      clear hb hrow hqs
      go_wp2
      go_ret
      exact ⟨M, rfl, HMK.out, HB.out⟩

set_option maxHeartbeats 2000000 in
theorem markInt64SS_any (lo hi g n c : Nat) (U m : Nat → Nat) (x : Nat → Nat → Int) (M0 : Nat) (w : World) (hn : n ≤ 1048576) (hm : ∀ i, i < n → m i ≤ 1048576) (hM : M0 ≤ 10000000000000) (h : CM w lo hi g n U m x) :
    Calls Try.prog 102 #[.slice (some ⟨g, 0, none⟩) n c, .int .i64 M0] w fun e w' => ∃ M : Nat, e = .returned (.int .i64 M) ∧ M ≤ M0 + n * 1048576 ∧ Only lo hi w w' := by
  have H := Lib.hid h
  have HM := Lib.hid hm
  have HN := Lib.hid hn
  have H0 := Lib.hid hM
  clear h hm hn hM
  go_enter Try.func102, Try.ntmps102
  go_wp2
  go_loopw [1, 5] (fun q i wr => ∃ k M : Nat, k ≤ n ∧ i = .int .i64 k ∧ q = .int .i64 M ∧ M ≤ M0 + k * 1048576 ∧ (Row wr g 0 22 n (fun i => .slice (bl7 U i) (m i) (m i))) ∧ (∀ i, k ≤ i → i < n → Row wr (U i) 0 2 (m i) (fun k => .int .i64 (x i k))) ∧ Only lo hi w wr) (fun _ i _ => n - (intOf i).toNat)
  case atStart => exact ⟨0, M0, Nat.zero_le _, rfl, rfl, by omega, H.out.row, fun i _ hi => (H.out.qs i hi).2, Only.refl _ _ _⟩
  case round =>
    obtain ⟨k, M, hk, rfl, rfl, hmk, hrow, hqs, hb⟩ := hrel
    have HK := Lib.hid hk
    have HMK := Lib.hid hmk
    by_cases hlt : k < n
    · have wk : IntKind.i64.wrap ((k : Int) + 1) = (k : Int) + 1 := IntWalk.i64_in _ (by have := HN.out; omega)
      have hks : k * 1048576 ≤ 1048576 * 1048576 := Nat.mul_le_mul_right _ (by have := HN.out; omega)
      have wM : IntKind.i64.wrap ((M : Int) + 1) = (M : Int) + 1 := IntWalk.i64_in _ (by have := H0.out; omega)
      have LT := Lib.hid hlt
      have HR := Lib.hid hrow
      have HQ := Lib.hid hqs
      have HB := Lib.hid hb
      have QK := Lib.hid (H.out.qs k hlt).1
      have GL := Lib.hid H.out.gl
      have UP := Lib.hid H.out.up
      have GI : Hid (∀ i, i < n → g < U i ∧ U i < hi) := fun i hi => (H.out.qs i hi).1
      have hmk' := HM.out k hlt
      have CM : Hid (∀ W, Row W (U k) 0 2 (m k) (fun j => .int .i64 (x k j)) → Calls Try.prog 103 #[.slice (some ⟨U k, 0, none⟩) (m k) (m k), .int .i64 (M)] W fun e w' => e = .returned (.int .i64 ((M + m k : Nat) : Int)) ∧ Only (U k) (U k + 1) W w') := fun W hW => by
        have := markInt64S_any (U k) (U k + 1) (some ⟨U k, 0, none⟩) (m k) (m k) (fun j => .int .i64 (x k j)) (M) W (by omega) (by have := H0.out; omega) (fun j _ => ⟨_, rfl⟩) (.inr ⟨U k, 0, rfl, Nat.le_refl _, Nat.lt_succ_self _, hW⟩)
        exact this.mono fun e w' ⟨h1, _, h3⟩ => ⟨h1, h3⟩
      have o1 := hrow.cell hlt
      simp only [Nat.zero_add, Nat.add_zero] at o1
      have R1 := Lib.hid hrow
      have OB := Lib.hid hb
      clear hrow hqs hb H
      go_wp2_with fail
      refine (CM.out wr (HQ.out k (Nat.le_refl _) LT.out)).mono ?_
      rintro e w2 ⟨rfl, ho⟩
      have O2 := Lib.hid ho
      clear ho o1
      go_wp2
      go_roundw
      case rel =>
        have hks := HMK.out
        have hmk' := hmk'
        have e1 := Nat.succ_mul k 1048576
        have G2 : w2.heap[g]? = wr.heap[g]? := O2.out.block R1.out.lt (.inl QK.out.1)
        refine ⟨k + 1, M + m k, by have := LT.out; omega, by rfl, by rfl, by omega, ?_, fun i hi1 hi2 => ?_, OB.out.trans ⟨O2.out.1.mono (by have := GL.out; have := QK.out; omega), fun b hb hs => O2.out.2 b (by have := QK.out; omega) hs⟩⟩
        · exact R1.out.keep G2
        · have r := HQ.out i (by omega) hi2
          exact r.keep (O2.out.block r.lt (.inr (UP.out k i (by omega) hi2)))
      case measure => have := LT.out; simp [intOf]; omega
    · obtain rfl : n = k := by have := HK.out; omega
      have HB := Lib.hid hb
      clear hb hrow hqs
      go_wp2
      go_ret
      exact ⟨M, rfl, HMK.out, HB.out⟩

end Go.Proofs.Ytaemegkdmbhpnaa
