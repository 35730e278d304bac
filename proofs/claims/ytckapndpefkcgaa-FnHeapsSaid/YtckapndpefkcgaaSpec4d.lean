/-
  The model's functions of chapter 4 that take one out: the lesser child, and what is left of a heap. No conditions beyond that the heap can be read.
-/
import Derived.Laws.AppendOwnNone
import Derived.BigRegion
import Derived.BigQuiet
import Derived.StillTailTactics
import Derived.Deep.RegionHeld3
import Derived.Test.YtckapndpefkcgaaKit4
import Derived.Test.YtckapndpefkcgaaMath4
import Derived.Test.YtckapndpefkcgaaSpec4c
import Derived.Test.YtckapndpefkcgaaOwn4
set_option maxHeartbeats 1000000
namespace Go.Proofs.Ytckapndpefkcgaa
open Go.RowKit
set_option maxRecDepth 100000

set_option maxHeartbeats 1000000 in
theorem l4Child_any (lo hi : Nat) (A : Option Addr) (n c : Nat) (hs : List Int) (i : Nat) (w : World) (hn : n ≤ 13) (hi13 : i ≤ 13) (h : Sl w lo hi A (n * 2) (fun k => .int .i64 (gi hs k))) :
    Calls Try.prog 107 #[.slice A n c, .int .i64 (i : Int)] w fun e w' => e = .returned (.int .i64 (chl hs n i)) ∧ Below w.heap.size w w' := by
  have H := Lib.hid h
  clear h
  obtain ⟨a, ha⟩ : ∃ a : Nat, a = 2 * i + 1 := ⟨_, rfl⟩
  have ea : (2 : Int) * (i : Int) + 1 = (a : Int) := by omega
  have wm : IntKind.i64.wrap ((2 : Int) * (i : Int)) = (2 : Int) * (i : Int) := IntWalk.i64_in _ (by omega)
  have wa : IntKind.i64.wrap (a : Int) = a := IntWalk.i64_in _ (by omega)
  have wb : IntKind.i64.wrap ((a : Int) + 1) = (a : Int) + 1 := IntWalk.i64_in _ (by omega)
  by_cases h1 : n ≤ a
  · have hc : (a : Int) ≥ (n : Int) := by omega
    have HC : Hid (chl hs n i = -1) := by show _ = _; unfold chl; rw [if_pos (by omega)]
    clear ha
    go_enter Try.func107, Try.ntmps107
    go_wp2
    go_ret
    exact ⟨ret_i64 HC.out.symm, Below.refl _ _⟩
  have hc : ¬ (a : Int) ≥ (n : Int) := by omega
  have z0 : (0 : Int) ≤ (a : Int) := by omega
  have z1 : (0 : Int) ≤ (a : Int) + 1 := by omega
  have z2 : (a : Int) < (n : Int) := by omega
  obtain ⟨b, off, rfl, b1, b2, hcc⟩ := H.out.at_ (show a * 2 < n * 2 by omega)
  have c0 : w.cell? ⟨b, off + a * 2, none⟩ = some (.int .i64 (gi hs (a * 2))) := hcc (a * 2) (by omega)
  have c1 : w.cell? ⟨b, off + a * 2 + 1, none⟩ = some (.int .i64 (gi hs (a * 2 + 1))) := hcc (a * 2 + 1) (by omega)
  by_cases h2 : a + 1 < n
  · have d0 : w.cell? ⟨b, off + (a + 1) * 2, none⟩ = some (.int .i64 (gi hs ((a + 1) * 2))) := hcc ((a + 1) * 2) (by omega)
    have d1 : w.cell? ⟨b, off + (a + 1) * 2 + 1, none⟩ = some (.int .i64 (gi hs ((a + 1) * 2 + 1))) := hcc ((a + 1) * 2 + 1) (by omega)
    have z3 : (a : Int) + 1 < (n : Int) := by omega
    rcases hl : less4 hs (a + 1) a with _ | _
    · have HC : Hid (chl hs n i = (a : Int)) := by show _ = _; unfold chl; rw [if_neg (by omega), if_neg (by rw [show 2 * i + 2 = a + 1 by omega, show 2 * i + 1 = a by omega, hl]; simp), ← ha]
      unfold less4 at hl
      clear ha hcc H
      go_enter Try.func107, Try.ntmps107
      go_wp2_with fail
      go_still_tail 15, (by kernel_rfl)
      change wpList _ _ _ _ _ w.drew
      have HBD : Hid (Below w.heap.size w w.drew) := Below.drew (Below.refl _ _)
      generalize w.drew = w8 at *
      go_wp2_with fail
      refine (specIsLess_any _ _ _ _ _).mono ?_
      rintro e w9 ⟨rfl, hb1⟩
      rw [hl]
      have HB9 := Lib.hid (HBD.out.trans (hb1.mono HBD.out.size))
      clear hb1
      go_wp2
      go_ret
      exact ⟨ret_i64 HC.out.symm, HB9.out⟩
    · have HC : Hid (chl hs n i = (a : Int) + 1) := by show _ = _; unfold chl; rw [if_neg (by omega), if_pos ⟨by omega, by rw [show 2 * i + 2 = a + 1 by omega, show 2 * i + 1 = a by omega, hl]⟩]; omega
      unfold less4 at hl
      clear ha hcc H
      go_enter Try.func107, Try.ntmps107
      go_wp2_with fail
      go_still_tail 15, (by kernel_rfl)
      change wpList _ _ _ _ _ w.drew
      have HBD : Hid (Below w.heap.size w w.drew) := Below.drew (Below.refl _ _)
      generalize w.drew = w8 at *
      go_wp2_with fail
      refine (specIsLess_any _ _ _ _ _).mono ?_
      rintro e w9 ⟨rfl, hb1⟩
      rw [hl]
      have HB9 := Lib.hid (HBD.out.trans (hb1.mono HBD.out.size))
      clear hb1
      go_wp2
      go_ret
      exact ⟨ret_i64 HC.out.symm, HB9.out⟩
  · have z3 : decide ((a : Int) + 1 < (n : Int)) = false := decide_eq_false (by omega)
    have HC : Hid (chl hs n i = (a : Int)) := by show _ = _; unfold chl; rw [if_neg (by omega), if_neg (by omega), ← ha]
    clear ha hcc H
    go_enter Try.func107, Try.ntmps107
    go_wp2_with fail
    go_quiet (fail)
    go_wp2
    go_ret
    exact ⟨ret_i64 HC.out.symm, below_drewN (Below.refl _ _) _⟩

set_option maxHeartbeats 2000000 in
theorem l4PopK_any (g n c : Nat) (hs : List Int) (base : Nat) (w : World) (hn : n ≤ 12) (hb : base ≤ w.heap.size) (h : OR 26 2 w base (some ⟨g, 0, none⟩) (n + 1) c hs) :
    Calls Try.prog 67 #[.slice (some ⟨g, 0, none⟩) (n + 1) c] w fun e w' => e = .returned (.slice (some ⟨g, 0, none⟩) n c) ∧ OR 26 2 w' base (some ⟨g, 0, none⟩) n c (pop4 hs n) ∧ Kept [g] w w' := by
  have H := Lib.hid h
  have HB := Lib.hid hb
  have GB := Lib.hid (show base ≤ g from (OR.lt h).1)
  have CP := Lib.hid (OR.cap h)
  clear h hb
  have c0 : w.cell? ⟨g, n * 2, none⟩ = some (.int .i64 (gi hs (n * 2))) := H.out.cell (by omega)
  have c1 : w.cell? ⟨g, n * 2 + 1, none⟩ = some (.int .i64 (gi hs (n * 2 + 1))) := H.out.cell (by omega)
  have y0 : w.cell? ⟨g, 0, none⟩ = some (.int .i64 (gi hs 0)) := H.out.cell (by omega)
  have y1 : w.cell? ⟨g, 1, none⟩ = some (.int .i64 (gi hs 1)) := H.out.cell (by omega)
  have f0 := H.out.frozen 0
  have f1 := H.out.frozen 1
  have wn : IntKind.i64.wrap (n : Int) = n := IntWalk.i64_in _ (by omega)
  have z0 : (0 : Int) ≤ (n : Int) := by omega
  have z1 : (n : Int) < (n : Int) + 1 := by omega
  have z2 : (n : Int) ≤ (c : Int) := by have := CP.out; omega
  go_enter Try.func67, Try.ntmps67
  go_upto_region 2 with (fail)
  obtain ⟨w1, hw1⟩ : ∃ w1, w1 = (w.setCell ⟨g, 0, none⟩ (.int .i64 (gi hs (n * 2)))).setCell ⟨g, 1, none⟩ (.int .i64 (gi hs (n * 2 + 1))) := ⟨_, rfl⟩
  rw [← hw1]
  have O1 := Lib.hid (show OR 26 2 w1 base (some ⟨g, 0, none⟩) n c ((se hs 0 (gi hs (n * 2)) (gi hs (n * 2 + 1))).take (n * 2)) by rw [hw1]; exact OR.pop ((H.out.set 0 _).set 1 _))
  have B1 := Lib.hid (show Kept [g] w w1 by rw [hw1]; exact ((Kept.refl _ _).setCell (p := ⟨g, 0, none⟩) (by simp) _).setCell (p := ⟨g, 1, none⟩) (by simp) _)
  clear hw1 c0 c1 y0 y1 f0 f1 H
  go_wp2_with fail
  go_loopw [3] (fun i wr => ∃ (k : Nat) (xs : List Int), (k < n ∨ k = 0) ∧ i = .int .i64 k ∧ OR 26 2 wr base (some ⟨g, 0, none⟩) n c xs ∧ down4 xs n k = pop4 hs n ∧ Kept [g] w wr) (fun i _ => n - (intOf i).toNat)
  case atStart => exact ⟨0, _, .inr rfl, rfl, O1.out, rfl, B1.out⟩
  case round =>
    obtain ⟨k, xs, hk, rfl, ho, hu, hbb⟩ := hrel
    have OX := Lib.hid ho
    have UX := Lib.hid hu
    have BX := Lib.hid hbb
    have SX := Lib.hid (show base ≤ wr.heap.size by have := HB.out; have := hbb.1.size; omega)
    clear ho hu hbb
    go_wp2_with fail
    refine (l4Child_any base wr.heap.size _ n c xs k wr (by omega) (by omega) OX.out.sl0).mono ?_
    rintro e w2 ⟨rfl, hb2⟩
    have O2 := Lib.hid (OX.out.below hb2 (Nat.le_refl _))
    have B2 := Lib.hid (BX.out.then_below hb2)
    have S2 := Lib.hid (show base ≤ w2.heap.size by have := SX.out; have := hb2.size; omega)
    clear hb2 OX BX SX O1 B1
    rcases Nat.lt_or_ge k n with hkn | hkn
    · rcases chl_range xs n k hkn with hc | ⟨q, hc, hq, hkq⟩
      · have LF := Lib.hid (chl_none (hs := xs) (n := n) (i := k) (.inl (by omega)))
        have UE : Hid (xs = pop4 hs n) := by show _ = _; rw [← UX.out, down4_end LF.out]
        rw [hc]
        clear LF hc
        go_wp2_with fail
        go_region
        all_goals
          go_wp2
          go_ret
          exact ⟨rfl, UE.out ▸ O2.out, B2.out.drewN 1⟩
      · rw [hc]
        have c0 : w2.cell? ⟨g, q * 2, none⟩ = some (.int .i64 (gi xs (q * 2))) := O2.out.cell (by omega)
        have c1 : w2.cell? ⟨g, q * 2 + 1, none⟩ = some (.int .i64 (gi xs (q * 2 + 1))) := O2.out.cell (by omega)
        have d0 : w2.cell? ⟨g, k * 2, none⟩ = some (.int .i64 (gi xs (k * 2))) := O2.out.cell (by omega)
        have d1 : w2.cell? ⟨g, k * 2 + 1, none⟩ = some (.int .i64 (gi xs (k * 2 + 1))) := O2.out.cell (by omega)
        have z3 : (0 : Int) ≤ (q : Int) := by omega
        have z4 : (q : Int) < (n : Int) := by omega
        have z5 : (0 : Int) ≤ (k : Int) := by omega
        have z6 : (k : Int) < (n : Int) := by omega
        have z7 : decide ((q : Int) < 0) = false := decide_eq_false (by omega)
        have tn : (chl xs n k).toNat = q := by omega
        rcases hl : less4 xs q k with _ | _
        · have LF := Lib.hid (chl_none (hs := xs) (n := n) (i := k) (.inr ⟨by omega, by rw [tn]; exact hl⟩))
          have UE : Hid (xs = pop4 hs n) := by show _ = _; rw [← UX.out, down4_end LF.out]
          unfold less4 at hl
          clear LF hc tn
          go_wp2_with fail
          go_still_tail 11, (by kernel_rfl)
          change wpList _ _ _ _ _ w2.drew
          have HBD : Hid (Below w2.heap.size w2 w2.drew) := Below.drew (Below.refl _ _)
          generalize w2.drew = w8 at *
          go_wp2_with fail
          refine (specIsLess_any _ _ _ _ _).mono ?_
          rintro e w9 ⟨rfl, hb1⟩
          rw [hl]
          have HB9 := Lib.hid (HBD.out.trans (hb1.mono HBD.out.size))
          clear hb1
          go_wp2
          go_ret
          exact ⟨rfl, UE.out ▸ O2.out.below HB9.out (Nat.le_refl _), B2.out.then_below HB9.out⟩
        · have LF := chl_some (hs := xs) (n := n) (i := k) (by omega) (by rw [tn]; exact hl)
          rw [tn] at LF
          have UE : Hid (down4 (swp xs k q) n q = pop4 hs n) := by
            have e := down4_go (hs := xs) (n := n) (i := k) (by rw [LF]; omega)
            rw [LF] at e
            exact e.symm.trans UX.out
          have HQ := Lib.hid hkq
          unfold less4 at hl
          clear LF hc tn UX hkq hkn hk
          go_wp2_with fail
          go_still_tail 11, (by kernel_rfl)
          change wpList _ _ _ _ _ w2.drew
          have HBD : Hid (Below w2.heap.size w2 w2.drew) := Below.drew (Below.refl _ _)
          generalize w2.drew = w8 at *
          go_wp2_with fail
          refine (specIsLess_any _ _ _ _ _).mono ?_
          rintro e w9 ⟨rfl, hb1⟩
          rw [hl]
          have HB9 := Lib.hid (HBD.out.trans (hb1.mono HBD.out.size))
          clear hb1
          have O9 := Lib.hid (O2.out.below HB9.out (Nat.le_refl _))
          have B9 := Lib.hid (B2.out.then_below HB9.out)
          have S9 := Lib.hid (show base ≤ w9.heap.size by have := S2.out; have := HB9.out.size; omega)
          clear c0 c1 d0 d1 hl HB9 HBD O2 B2 S2
          have d0 : w9.cell? ⟨g, k * 2, none⟩ = some (.int .i64 (gi xs (k * 2))) := O9.out.cell (by have := HQ.out; omega)
          have d1 : w9.cell? ⟨g, k * 2 + 1, none⟩ = some (.int .i64 (gi xs (k * 2 + 1))) := O9.out.cell (by have := HQ.out; omega)
          go_upto_region 8 with (fail)
          obtain ⟨w10, hw10⟩ : ∃ w10, w10 = w9.alloc (.cells #[.int .i64 (gi xs (k * 2)), .int .i64 (gi xs (k * 2 + 1))] 26) := ⟨_, rfl⟩
          rw [← hw10]
          have X10 := Lib.hid (show w10.heap[w9.heap.size]? = some (.cells #[.int .i64 (gi xs (k * 2)), .int .i64 (gi xs (k * 2 + 1))] 26 (0, 0)) by rw [hw10]; exact heap_alloc_new w9 _)
          have HB10 := Lib.hid (show Below w9.heap.size w9 w10 by rw [hw10]; exact below_new w9 _)
          have O10 := Lib.hid (O9.out.below HB10.out (Nat.le_refl _))
          have B10 := Lib.hid (B9.out.then_below HB10.out)
          have G10 := Lib.hid (show g < w9.heap.size from (OR.lt O9.out).2)
          clear hw10 d0 d1 O9 B9 HB10
          have c0 : w10.cell? ⟨g, q * 2, none⟩ = some (.int .i64 (gi xs (q * 2))) := O10.out.cell (by omega)
          have c1 : w10.cell? ⟨g, q * 2 + 1, none⟩ = some (.int .i64 (gi xs (q * 2 + 1))) := O10.out.cell (by omega)
          have y0 : w10.cell? ⟨g, k * 2, none⟩ = some (.int .i64 (gi xs (k * 2))) := O10.out.cell (by have := HQ.out; omega)
          have y1 : w10.cell? ⟨g, k * 2 + 1, none⟩ = some (.int .i64 (gi xs (k * 2 + 1))) := O10.out.cell (by have := HQ.out; omega)
          have f0 := O10.out.frozen (k * 2)
          have f1 := O10.out.frozen (k * 2 + 1)
          go_upto_region 9 with (fail)
          obtain ⟨w11, hw11⟩ : ∃ w11, w11 = (w10.setCell ⟨g, k * 2, none⟩ (.int .i64 (gi xs (q * 2)))).setCell ⟨g, k * 2 + 1, none⟩ (.int .i64 (gi xs (q * 2 + 1))) := ⟨_, rfl⟩
          rw [← hw11]
          have O11 := Lib.hid (show OR 26 2 w11 base (some ⟨g, 0, none⟩) n c (se xs k (gi xs (q * 2)) (gi xs (q * 2 + 1))) by rw [hw11]; exact (O10.out.set _ _).set _ _)
          have B11 := Lib.hid (show Kept [g] w w11 by rw [hw11]; exact (B10.out.setCell (p := ⟨g, k * 2, none⟩) (by simp) _).setCell (p := ⟨g, k * 2 + 1, none⟩) (by simp) _)
          have X11 := Lib.hid (show w11.heap[w9.heap.size]? = some (.cells #[.int .i64 (gi xs (k * 2)), .int .i64 (gi xs (k * 2 + 1))] 26 (0, 0)) by
            rw [hw11]
            have hne : w9.heap.size ≠ g := by have := G10.out; omega
            exact (Below.heap_setCell _ ⟨g, _, none⟩ _ _ hne).trans ((Below.heap_setCell _ ⟨g, _, none⟩ _ _ hne).trans X10.out))
          have x0 := cell_of_row w11 _ 0 _ _ _ X11.out
          have x1 := cell_of_row w11 _ 1 _ _ _ X11.out
          simp at x0 x1
          have f0 := O11.out.frozen (q * 2)
          have f1 := O11.out.frozen (q * 2 + 1)
          clear hw11 c0 c1 y0 y1 O10 B10 X10
          obtain ⟨v0, hv0⟩ : ∃ v0, v0 = gi (se xs k (gi xs (q * 2)) (gi xs (q * 2 + 1))) (q * 2) := ⟨_, rfl⟩
          obtain ⟨v1, hv1⟩ : ∃ v1, v1 = gi (se xs k (gi xs (q * 2)) (gi xs (q * 2 + 1))) (q * 2 + 1) := ⟨_, rfl⟩
          have y0 : w11.cell? ⟨g, q * 2, none⟩ = some (.int .i64 v0) := by rw [hv0]; exact O11.out.cell (by omega)
          have y1 : w11.cell? ⟨g, q * 2 + 1, none⟩ = some (.int .i64 v1) := by rw [hv1]; exact O11.out.cell (by omega)
          clear hv0 hv1
          go_upto_region 10 with (fail)
          obtain ⟨w12, hw12⟩ : ∃ w12, w12 = (w11.setCell ⟨g, q * 2, none⟩ (.int .i64 (gi xs (k * 2)))).setCell ⟨g, q * 2 + 1, none⟩ (.int .i64 (gi xs (k * 2 + 1))) := ⟨_, rfl⟩
          rw [← hw12]
          have O12 := Lib.hid (show OR 26 2 w12 base (some ⟨g, 0, none⟩) n c (swp xs k q) by rw [hw12]; exact (O11.out.set _ _).set _ _)
          have B12 := Lib.hid (show Kept [g] w w12 by rw [hw12]; exact (B11.out.setCell (p := ⟨g, q * 2, none⟩) (by simp) _).setCell (p := ⟨g, q * 2 + 1, none⟩) (by simp) _)
          clear hw12 x0 x1 f0 f1 y0 y1 O11 B11 X11
          go_wp2
          go_roundw
          case rel => exact ⟨q, _, .inl hq, rfl, O12.out, UE.out, B12.out⟩
          case measure => have := HQ.out; simp [intOf]; omega
    · obtain rfl : k = 0 := by omega
      obtain rfl : n = 0 := by omega
      have hc : chl xs 0 0 = -1 := by unfold chl; rfl
      have UE : Hid (xs = pop4 hs 0) := by show _ = _; rw [← UX.out, down4_end (by unfold lf4 lfa; simp)]
      rw [hc]
      clear hc
      go_wp2_with fail
      go_region
      all_goals
        go_wp2
        go_ret
        exact ⟨rfl, UE.out ▸ O2.out, B2.out.drewN 1⟩

theorem l4Pop_any (g n c : Nat) (hs : List Int) (base : Nat) (w : World) (hn : n ≤ 12) (hb : base ≤ w.heap.size) (h : OR 26 2 w base (some ⟨g, 0, none⟩) (n + 1) c hs) :
    Calls Try.prog 67 #[.slice (some ⟨g, 0, none⟩) (n + 1) c] w fun e w' => e = .returned (.slice (some ⟨g, 0, none⟩) n c) ∧ OR 26 2 w' base (some ⟨g, 0, none⟩) n c (pop4 hs n) ∧ Below base w w' :=
  (l4PopK_any g n c hs base w hn hb h).mono fun _ _ ⟨h1, h2, h3⟩ => ⟨h1, h2, h3.below hb (fun b hb' => by simp at hb'; subst hb'; exact (OR.lt h).1)⟩

end Go.Proofs.Ytckapndpefkcgaa
