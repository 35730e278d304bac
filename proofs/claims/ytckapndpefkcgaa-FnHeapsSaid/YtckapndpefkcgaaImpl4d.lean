/-
  The program's heap that is pointed at: how one goes down, how one is put in, how one is taken out. No conditions beyond that the heap can be read.
-/
import Derived.BigRegion
import Derived.BigQuiet
import Derived.StillTailTactics
import Derived.Deep.RegionHeld3
import Derived.Laws.Tables
import Derived.Laws.CopyOwn
import Derived.Test.YtckapndpefkcgaaImpl4c
import Derived.Test.YtckapndpefkcgaaMath4
import Derived.Test.YtckapndpefkcgaaKit4
set_option maxHeartbeats 1000000
namespace Go.Proofs.Ytckapndpefkcgaa
open Go.RowKit
set_option maxRecDepth 100000

set_option maxHeartbeats 2000000 in
theorem leastFrom_any (base hb : Nat) (A : Option Addr) (n c : Nat) (hs : List Int) (i : Nat) (w : World) (hn : n ≤ 13) (hi : i ≤ 13) (h : HB w base hb A n c hs) (hin : i < n ∨ n = 0) :
    Calls Try.prog 106 #[.pointer (some ⟨hb, 0, none⟩), .int .i64 (i : Int)] w fun e w' => e = .returned (.int .i64 ((lf4 hs n i : Nat) : Int)) ∧ Below w.heap.size w w' := by
  have H := Lib.hid h
  clear h
  obtain ⟨a, ha⟩ : ∃ a : Nat, a = 2 * i + 1 := ⟨_, rfl⟩
  have ea : (2 : Int) * (i : Int) + 1 = (a : Int) := by omega
  have eb : (2 : Int) * (i : Int) + 2 = (a : Int) + 1 := by omega
  have wm : IntKind.i64.wrap ((2 : Int) * (i : Int)) = (2 : Int) * (i : Int) := IntWalk.i64_in _ (by omega)
  have wa : IntKind.i64.wrap (a : Int) = a := IntWalk.i64_in _ (by omega)
  have wb : IntKind.i64.wrap ((a : Int) + 1) = (a : Int) + 1 := IntWalk.i64_in _ (by omega)
  have wc : IntKind.i64.wrap ((a : Int) + 1 + 1) = (a : Int) + 1 + 1 := IntWalk.i64_in _ (by omega)
  have L1 : Hid (lfa hs n i = if a < n ∧ less4 hs a i = true then a else i) := by show _ = _; unfold lfa; rw [← ha]
  have L2 : Hid (lf4 hs n i = if a + 1 < n ∧ less4 hs (a + 1) (lfa hs n i) = true then a + 1 else lfa hs n i) := by show _ = _; unfold lf4; rw [show 2 * i + 2 = a + 1 by omega]
  have LN : Hid (lfa hs n i < n ∨ n = 0) := by show _ ∨ _; rw [L1.out]; split <;> omega
  have HIN := Lib.hid hin
  clear ha hin
  go_enter Try.func106, Try.ntmps106
  go_wp2
  go_loopw [5, 6] (fun l cc wr => ∃ m q : Nat, l = .int .i64 (m : Int) ∧ cc = .int .i64 (a + q : Int) ∧ ((q = 0 ∧ m = i) ∨ (q = 1 ∧ m = lfa hs n i) ∨ (q = 2 ∧ m = lf4 hs n i)) ∧ Below w.heap.size w wr) (fun _ cc _ => a + 3 - (intOf cc).toNat)
  case atStart => exact ⟨i, 0, rfl, by simp, .inl ⟨rfl, rfl⟩, Below.refl _ _⟩
  case round =>
    obtain ⟨m, q, rfl, rfl, hk, hbw⟩ := hrel
    have HW := Lib.hid hbw
    have HX := Lib.hid (H.out.below hbw (Nat.le_refl _))
    clear hbw
    obtain ⟨q0, q1⟩ := HX.out.cells
    rcases hk with ⟨rfl, rfl⟩ | ⟨rfl, hm⟩ | ⟨rfl, hm⟩
    · have z9 : ((a : Int) + ((0 : Nat) : Int)) = (a : Int) := by simp
      rw [z9]
      have z0 : (a : Int) ≤ (a : Int) + 1 := by omega
      by_cases hlt : a < n
      · have z1 : (a : Int) < (n : Int) := by omega
        go_wp2_with fail
        refine (isLessAt_any base hb A n c hs a m _ HX.out hlt (by have := HIN.out; omega)).mono ?_
        rintro e w2 ⟨rfl, hb2⟩
        have HW2 := Lib.hid (HW.out.trans (hb2.mono HW.out.size))
        clear hb2
        rcases ho : less4 hs a m with _ | _
        · have LE : Hid (m = lfa hs n m) := by show _ = _; rw [L1.out, ho]; simp
          clear ho
          go_wp2
          go_roundw
          case rel => exact ⟨m, 1, rfl, by go_num, .inr (.inl ⟨rfl, LE.out⟩), HW2.out⟩
          case measure => first | (simp [intOf]; done) | (simp [intOf]; omega)
        · have LE : Hid (a = lfa hs n m) := by show _ = _; rw [L1.out, if_pos ⟨hlt, ho⟩]
          clear ho
          go_wp2
          go_roundw
          case rel => exact ⟨a, 1, rfl, by go_num, .inr (.inl ⟨rfl, LE.out⟩), HW2.out⟩
          case measure => first | (simp [intOf]; done) | (simp [intOf]; omega)
      · have z1 : ¬ (a : Int) < (n : Int) := by omega
        have LE : Hid (m = lf4 hs n m) := by
          have e1 : lfa hs n m = m := by rw [L1.out]; exact if_neg (by omega)
          show _ = _; rw [L2.out, if_neg (by omega), e1]
        go_wp2
        go_ret
        exact ⟨ret_i64 (by rw [← LE.out]), HW.out⟩
    · have z9 : ((a : Int) + ((1 : Nat) : Int)) = (a : Int) + 1 := by simp
      rw [z9]
      have LA := Lib.hid hm
      have z0 : (a : Int) + 1 ≤ (a : Int) + 1 := by omega
      by_cases hlt : a + 1 < n
      · have z1 : (a : Int) + 1 < (n : Int) := by omega
        have CV := Lib.hid (isLessAt_any base hb A n c hs (a + 1) m _ HX.out hlt (by have := LN.out; rw [hm]; omega))
        have e9 : (((a + 1 : Nat)) : Int) = (a : Int) + 1 := by omega
        rw [e9] at CV
        clear hm e9
        go_wp2_with fail
        refine CV.out.mono ?_
        rintro e w2 ⟨rfl, hb2⟩
        have HW2 := Lib.hid (HW.out.trans (hb2.mono HW.out.size))
        clear hb2
        rcases ho : less4 hs (a + 1) m with _ | _
        · have LE : Hid (m = lf4 hs n i) := by show _ = _; rw [L2.out, ← LA.out, ho]; simp
          clear ho
          go_wp2
          go_roundw
          case rel => exact ⟨m, 2, rfl, by go_num, .inr (.inr ⟨rfl, LE.out⟩), HW2.out⟩
          case measure => first | (simp [intOf]; done) | (simp [intOf]; omega)
        · have LE : Hid (a + 1 = lf4 hs n i) := by show _ = _; rw [L2.out, ← LA.out, if_pos ⟨hlt, ho⟩]
          clear ho
          go_wp2
          go_roundw
          case rel => exact ⟨a + 1, 2, by go_num, by go_num, .inr (.inr ⟨rfl, LE.out⟩), HW2.out⟩
          case measure => first | (simp [intOf]; done) | (simp [intOf]; omega)
      · have z1 : ¬ (a : Int) + 1 < (n : Int) := by omega
        have LE : Hid (m = lf4 hs n i) := by show _ = _; rw [L2.out, if_neg (by omega), ← LA.out]
        clear hm
        go_wp2
        go_ret
        exact ⟨ret_i64 (by rw [← LE.out]), HW.out⟩
    · have z9 : ((a : Int) + ((2 : Nat) : Int)) = (a : Int) + 2 := by simp
      rw [z9]
      have LA := Lib.hid hm
      have z0 : ¬ (a : Int) + 2 ≤ (a : Int) + 1 := by omega
      clear hm
      go_wp2
      go_ret
      exact ⟨ret_i64 (by rw [← LA.out]), HW.out⟩

end Go.Proofs.Ytckapndpefkcgaa
