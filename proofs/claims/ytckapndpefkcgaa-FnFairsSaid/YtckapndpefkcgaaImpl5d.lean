/-
  The program's SchedFault. No conditions beyond that the list can be read.
-/
import Derived.Test.YtckapndpefkcgaaImpl5c
set_option maxHeartbeats 1000000
namespace Go.Proofs.Ytckapndpefkcgaa
open Go.RowKit
set_option maxRecDepth 100000

set_option maxHeartbeats 4000000 in
theorem implSchedFault_any (lo hi : Nat) (A : Option Addr) (c : Nat) (b : Int) (xs : List R3) (w : World) (hn : xs.length ≤ 9223372036854775807) (h : RS w lo hi A xs) :
    Calls Try.prog 41 #[.agg #[.int .i64 b, .slice A xs.length c]] w fun e w' => e = .returned (.int .i64 (sf5 b xs)) ∧ Below w.heap.size w w' := by
  have H := Lib.hid h.lt
  obtain ⟨n, hn'⟩ : ∃ n, n = xs.length := ⟨_, rfl⟩
  have HN := Lib.hid hn'
  rw [← hn'] at hn ⊢
  clear h hn'
  obtain ⟨w1, hw1⟩ : ∃ w1, w1 = w.alloc (.cells #[.int .i64 b, .slice A n c] 43) := ⟨_, rfl⟩
  have K1 : Hid (w1.heap[w.heap.size]? = some (.cells #[.int .i64 b, .slice A n c] 43 (0, 0))) := by show _ = _; rw [hw1]; exact heap_alloc_new w _
  have B1 : Hid (Below w.heap.size w w1) := by rw [hw1]; exact below_new w _
  have Z1 : Hid (w1.heap.size = w.heap.size + 1) := by show _ = _; rw [hw1]; simp
  have KS : Hid (∀ W, Below w1.heap.size w1 W → W.cell? ⟨w.heap.size, 0, none⟩ = some (.int .i64 b) ∧ W.cell? ⟨w.heap.size, 1, none⟩ = some (.slice A n c)) := fun W hW => by
    have j := (hW.block w.heap.size (by have := Z1.out; omega)).trans K1.out
    exact ⟨cell_of_row W _ 0 _ _ _ j, cell_of_row W _ 1 _ _ _ j⟩
  have FIN : Hid (∀ W, Below w1.heap.size w1 W → Below w.heap.size w W) := fun W hW => B1.out.trans (hW.mono (by have := Z1.out; omega))
  have H1 := Lib.hid (H.out.below B1.out (Nat.min_le_right _ _))
  obtain ⟨q0, q1⟩ := KS.out w1 (Below.refl _ _)
  have HW1 := Lib.hid hw1
  clear hw1
  by_cases h0 : 0 ≤ b
  rotate_left
  · have HF : Hid (sf5 b xs = 3) := by show _ = _; unfold sf5; rw [if_pos (by omega)]
    go_enter Try.func41, Try.ntmps41
    go_upto_region 1 with (fail)
    rw [← HW1.out]
    go_wp2
    go_ret
    exact ⟨ret_i64 HF.out.symm, FIN.out _ (Below.refl _ _)⟩
  by_cases h1 : b ≤ 10000000
  rotate_left
  · have HF : Hid (sf5 b xs = 3) := by show _ = _; unfold sf5; rw [if_pos (by omega)]
    go_enter Try.func41, Try.ntmps41
    go_upto_region 1 with (fail)
    rw [← HW1.out]
    go_wp2
    go_ret
    exact ⟨ret_i64 HF.out.symm, FIN.out _ (Below.refl _ _)⟩
  by_cases h2 : n ≤ 5
  rotate_left
  · have HF : Hid (sf5 b xs = 2) := by show _ = _; unfold sf5; rw [if_neg (by omega), if_pos (by have := HN.out; omega)]
    go_enter Try.func41, Try.ntmps41
    go_upto_region 1 with (fail)
    rw [← HW1.out]
    go_wp2
    go_ret
    exact ⟨ret_i64 HF.out.symm, FIN.out _ (Below.refl _ _)⟩
  have H01 := Lib.hid (And.intro h0 h1)
  have H2 := Lib.hid h2
  go_enter Try.func41, Try.ntmps41
  go_upto_region 1 with (fail)
  rw [← HW1.out]
  clear HW1
  go_wp2
  go_loopw [22] (fun i wr => ∃ k : Nat, k ≤ n ∧ i = .int .i64 k ∧ anyTo k (badR b xs) = false ∧ Below w1.heap.size w1 wr) (fun i _ => n - (intOf i).toNat)
  case atStart => exact ⟨0, Nat.zero_le _, rfl, rfl, Below.refl _ _⟩
  case round =>
    obtain ⟨k, hk, rfl, hno, hb⟩ := hrel
    have NO := Lib.hid hno
    have HB := Lib.hid hb
    clear hno q0 q1
    obtain ⟨q0, q1⟩ := KS.out wr hb
    by_cases hlt : k < n
    · obtain ⟨bb, off, rfl, e1, e2, hc⟩ := RS.get H1.out (i := k) (by have := HN.out; omega)
      obtain ⟨d0, d1, d2⟩ := hc k (by have := HN.out; omega)
      have a0 : wr.cell? ⟨bb, off + k * 3, none⟩ = some (.int .i64 (g3 xs k).1) := (hb.cell (p := ⟨bb, off + k * 3, none⟩) (by simp; have := Z1.out; omega)).trans d0
      have a1 : wr.cell? ⟨bb, off + k * 3 + 1, none⟩ = some (.int .i64 (g3 xs k).2.1) := (hb.cell (p := ⟨bb, off + k * 3 + 1, none⟩) (by simp; have := Z1.out; omega)).trans d1
      have a2 : wr.cell? ⟨bb, off + k * 3 + 2, none⟩ = some (.int .i64 (g3 xs k).2.2) := (hb.cell (p := ⟨bb, off + k * 3 + 2, none⟩) (by simp; have := Z1.out; omega)).trans d2
      have BD : Hid (badR b xs k = !okR b (g3 xs k)) := rfl
      obtain ⟨⟨x0, x1, x2⟩, hx⟩ : ∃ x : R3, x = g3 xs k := ⟨_, rfl⟩
      rw [← hx] at a0 a1 a2 BD
      have hsz := HB.out.size
      have BA := Lib.hid (HB.out.alloc hsz (.cells #[.int .i64 x0, .int .i64 x1, .int .i64 x2] 52))
      obtain ⟨p0, p1⟩ := KS.out _ BA.out
      have IR := Lib.hid (isReadyFrom_any b x0 x1 x2 H01.out)
      clear hc d0 d1 d2 hb hx
      rcases ho : okR b (x0, x1, x2) with _ | _
      · have HF : Hid (sf5 b xs = 3) := by
          show _ = _
          unfold sf5
          rw [if_neg (by have := H01.out; omega), if_neg (by have := HN.out; omega), if_pos (anyTo_true (i := k) (by have := HN.out; omega) (by rw [BD.out, ho]; rfl))]
        rw [ho] at IR
        clear ho
        go_wp2_with fail
        refine (IR.out _).mono ?_
        rintro e w' ⟨rfl, hb'⟩
        have BF := Lib.hid (BA.out.trans (hb'.mono BA.out.size))
        clear hb'
        go_wp2
        go_ret
        exact ⟨ret_i64 HF.out.symm, FIN.out _ BF.out⟩
      · have NO2 : Hid (anyTo (k + 1) (badR b xs) = false) := by
          show _ = _
          rw [anyTo_succ, NO.out, BD.out, ho]; rfl
        rw [ho] at IR
        clear ho
        go_wp2_with fail
        refine (IR.out _).mono ?_
        rintro e w' ⟨rfl, hb'⟩
        have BF := Lib.hid (BA.out.trans (hb'.mono BA.out.size))
        clear hb'
        go_wp2
        go_roundw
        case rel => exact ⟨k + 1, by omega, by go_num, NO2.out, BF.out⟩
        case measure => simp [intOf]; omega
    · obtain rfl : n = k := by omega
      have RB := Lib.hid (risesById_any lo (min hi w.heap.size) A c xs wr (by have := HN.out; omega) (H1.out.below hb (by have := Z1.out; omega)))
      rw [← HN.out] at RB
      clear hb
      rcases ho : anyTo (n - 1) (noRise xs) with _ | _
      rotate_left
      · have HF : Hid (sf5 b xs = 1) := by
          show _ = _
          unfold sf5
          rw [if_neg (by have := H01.out; omega), if_neg (by have := HN.out; omega), if_neg (by rw [← HN.out, NO.out]; decide), if_pos (by rw [← HN.out]; exact ho)]
        rw [ho] at RB
        clear ho
        go_wp2_with fail
        refine RB.out.mono ?_
        rintro e w' ⟨rfl, hb'⟩
        have BF := Lib.hid (HB.out.trans (hb'.mono HB.out.size))
        clear hb'
        go_wp2
        go_ret
        exact ⟨ret_i64 HF.out.symm, FIN.out _ BF.out⟩
      have HR := Lib.hid (ris_of (xs := xs) (b := b) (by rw [← HN.out]; exact NO.out) (by rw [← HN.out]; exact ho))
      have HF : Hid (sf5 b xs = if bas xs b ≠ b then 9 else 0) := by
        show _ = _
        unfold sf5
        rw [if_neg (by have := H01.out; omega), if_neg (by have := HN.out; omega), if_neg (by rw [← HN.out, NO.out]; decide), if_neg (by rw [← HN.out, ho]; decide)]
      rw [ho] at RB
      clear ho
      go_wp2_with fail
      refine RB.out.mono ?_
      rintro e w2 ⟨rfl, hb2⟩
      have B2 := Lib.hid (HB.out.trans (hb2.mono HB.out.size))
      clear hb2 RB q0 q1
      obtain ⟨q0, q1⟩ := KS.out w2 B2.out
      have TH := Lib.hid (threadsOf_any lo (min hi w.heap.size) A c b xs HR.out w2 (H1.out.below B2.out (by have := Z1.out; omega)))
      rw [← HN.out] at TH
      go_wp2_with fail
      refine TH.out.mono ?_
      rintro e w3 ⟨rfl, hm, hb3⟩
      have B3 := Lib.hid (B2.out.trans (hb3.mono B2.out.size))
      have FI := Lib.hid (first_any (w2.heap.size + 1) (mth xs) w3 hm)
      rw [HR.out.all] at FI
      have HL : Hid (bas xs b = if (lst xs).2 = true then (lst xs).1.2.2 else b) := rfl
      obtain ⟨L, hL⟩ : ∃ L, L = lst xs := ⟨_, rfl⟩
      rw [← hL] at FI HL
      clear hL hm hb3 TH q0 q1
      obtain ⟨⟨f0, f1, f2⟩, bb⟩ := L
      go_wp2_with fail
      refine FI.out.mono ?_
      rintro e w4 ⟨rfl, hb4⟩
      have B4 := Lib.hid (B3.out.trans (hb4.mono B3.out.size))
      have B5 := Lib.hid (B4.out.alloc B4.out.size (.cells #[.int .i64 f0, .int .i64 f1, .int .i64 f2] 52))
      obtain ⟨q0, q1⟩ := KS.out _ B5.out
      unfold rv
      clear hb4 FI
      cases bb with
      | false =>
        have HQ : Hid (sf5 b xs = 0) := by
          show _ = _
          rw [HF.out, HL.out]; simp
        go_wp2
        go_ret
        exact ⟨ret_i64 HQ.out.symm, FIN.out _ B5.out⟩
      | true =>
        by_cases hq : f2 = b
        · have HQ : Hid (sf5 b xs = 0) := by
            show _ = _
            rw [HF.out, HL.out]; simp [hq]
          subst hq
          go_wp2
          go_ret
          exact ⟨ret_i64 HQ.out.symm, FIN.out _ B5.out⟩
        · have HQ : Hid (sf5 b xs = 9) := by
            show _ = _
            rw [HF.out, HL.out]; simp [hq]
          have hq2 : (f2 != b) = true := by simpa using hq
          go_wp2
          go_ret
          exact ⟨ret_i64 HQ.out.symm, FIN.out _ B5.out⟩

end Go.Proofs.Ytckapndpefkcgaa
