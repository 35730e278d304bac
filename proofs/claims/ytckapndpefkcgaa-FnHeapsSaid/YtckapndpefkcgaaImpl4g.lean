/-
  The program's HeapFault: it answers as the model's. No conditions beyond that the heap can be read.
-/
import Derived.BigRegion
import Derived.BigQuiet
import Derived.StillTailTactics
import Derived.Deep.RegionHeld3
import Derived.Laws.Tables
import Derived.Laws.CopyOwn
import Derived.Test.YtckapndpefkcgaaImpl4f
import Derived.Test.YtckapndpefkcgaaMath4
import Derived.Test.YtckapndpefkcgaaKit4
set_option maxHeartbeats 1000000
namespace Go.Proofs.Ytckapndpefkcgaa
open Go.RowKit
set_option maxRecDepth 100000

set_option maxHeartbeats 2000000 in
theorem implHeapFault_any (lo hi : Nat) (A : Option Addr) (n c : Nat) (hs : List Int) (w : World) (hn : n * 16 ≤ 140737488351232) (ex : hs.length = n * 2) (hA : A = none → c = 0) (hcap : n ≤ c) (h : Sl w lo hi A (n * 2) (fun k => .int .i64 (gi hs k))) :
    Calls Try.prog 23 #[.slice A n c] w fun e w' => e = .returned (.int .i64 (hf hs n)) ∧ Below w.heap.size w w' := by
  have H := Lib.hid h
  have EX := Lib.hid ex; have HA := Lib.hid hA; have HC := Lib.hid hcap
  clear h ex hA hcap
  by_cases hm : 12 < n
  · go_enter Try.func23, Try.ntmps23
    go_wp2
    go_ret
    exact ⟨ret_i64 (by unfold hf; rw [if_pos hm]), Below.refl _ _⟩
  go_enter Try.func23, Try.ntmps23
  go_wp2
  go_loopw [12] (fun i wr => ∃ k : Nat, k ≤ n ∧ i = .int .i64 k ∧ anyTo k (badE hs) = false ∧ Below w.heap.size w wr) (fun i _ => n - (intOf i).toNat)
  case atStart => exact ⟨0, Nat.zero_le _, rfl, rfl, Below.refl _ _⟩
  case round =>
    obtain ⟨k, hk, rfl, hno, hbw⟩ := hrel
    have NO := Lib.hid hno
    have HW := Lib.hid hbw
    clear hno
    by_cases hlt : k < n
    · obtain ⟨b, off, rfl, h1, h2, hcc⟩ := H.out.lt.at_ (show k * 2 < n * 2 by omega)
      have c0 : wr.cell? ⟨b, off + k * 2, none⟩ = some (.int .i64 (gi hs (k * 2))) := (hbw.cell (p := ⟨b, off + k * 2, none⟩) (by simp; omega)).trans (hcc (k * 2) (by omega))
      have c1 : wr.cell? ⟨b, off + k * 2 + 1, none⟩ = some (.int .i64 (gi hs (k * 2 + 1))) := (hbw.cell (p := ⟨b, off + (k * 2 + 1), none⟩) (by simp; omega)).trans (hcc (k * 2 + 1) (by omega))
      have NB := Lib.hid (show ∀ o, Below w.heap.size w (wr.alloc o) from fun o => HW.out.alloc HW.out.size _)
      clear hcc hbw
      rcases ho : okE (gi hs (k * 2)) (gi hs (k * 2 + 1)) with _ | _
      · have HF : Hid (hf hs n = 3) := by
          show _ = _
          unfold hf; rw [if_neg hm, if_pos (anyTo_true hlt (by unfold badE; rw [ho]; rfl))]
        go_wp2_with fail
        refine (isEntry_any _ _ _).mono ?_
        rw [ho]
        rintro e w1 ⟨rfl, hb⟩
        have HB1 := Lib.hid ((NB.out _).trans (hb.mono (NB.out _).size))
        clear hb ho
        go_wp2
        go_ret
        exact ⟨ret_i64 HF.out.symm, HB1.out⟩
      · have NO2 : Hid (anyTo (k + 1) (badE hs) = false) := by
          show _ = _
          rw [anyTo_succ, NO.out]; unfold badE; rw [ho]; rfl
        go_wp2_with fail
        refine (isEntry_any _ _ _).mono ?_
        rw [ho]
        rintro e w1 ⟨rfl, hb⟩
        have HB1 := Lib.hid ((NB.out _).trans (hb.mono (NB.out _).size))
        clear hb ho
        go_wp2
        go_roundw
        case rel => exact ⟨k + 1, by omega, by go_num, NO2.out, HB1.out⟩
        case measure => first | (simp [intOf]; done) | (simp [intOf]; omega)
    · obtain rfl : k = n := by omega
      clear hbw
      go_wp2
      go_loopw [22] (fun i wr => ∃ j : Nat, j ≤ k ∧ i = .int .i64 j ∧ anyTo j (dupE hs) = false ∧ Below w.heap.size w wr) (fun i _ => k - (intOf i).toNat)
      case atStart => exact ⟨0, Nat.zero_le _, rfl, rfl, HW.out⟩
      case round =>
        obtain ⟨j, hj, rfl, hno, hbw⟩ := hrel
        have NP := Lib.hid hno
        have HX := Lib.hid hbw
        clear hno
        by_cases hlt : j < k
        · have hjc : (j : Int) ≤ (c : Int) := by have := HC.out; omega
          have hj0 : (0 : Int) ≤ (j : Int) := by omega
          have H5 := Lib.hid (H.out.lt.below hbw (Nat.min_le_right _ _))
          obtain ⟨b, off, rfl, h1, h2, hcc⟩ := H5.out.at_ (show j * 2 < k * 2 by omega)
          have c0 : wr.cell? ⟨b, off + j * 2, none⟩ = some (.int .i64 (gi hs (j * 2))) := hcc (j * 2) (by omega)
          have c1 : wr.cell? ⟨b, off + j * 2 + 1, none⟩ = some (.int .i64 (gi hs (j * 2 + 1))) := hcc (j * 2 + 1) (by omega)
          obtain ⟨w5, hw5⟩ : ∃ w5, w5 = wr.alloc (.cells #[.int .i64 (gi hs (j * 2)), .int .i64 (gi hs (j * 2 + 1))] 26) := ⟨_, rfl⟩
          have k5 : w5.heap[wr.heap.size]? = some (.cells #[.int .i64 (gi hs (j * 2)), .int .i64 (gi hs (j * 2 + 1))] 26 (0, 0)) := by rw [hw5]; exact heap_alloc_new wr _
          have x0 := cell_of_row w5 _ 0 _ _ _ k5
          have x1 := cell_of_row w5 _ 1 _ _ _ k5
          simp at x0 x1
          have B5 := Lib.hid (show Below w.heap.size w w5 by rw [hw5]; exact HX.out.alloc HX.out.size _)
          have B5' := Lib.hid (show Below wr.heap.size wr w5 by rw [hw5]; exact below_new wr _)
          have HW5 := Lib.hid hw5
          have SJ : Hid (∀ W, Below w5.heap.size w5 W → Sl W lo (min hi w.heap.size) (some ⟨b, off, none⟩) (j * 2) (fun k => .int .i64 (gi hs k))) := fun W hW i hi' =>
            ((H5.out.below B5'.out (by have := HX.out.size; omega)).below hW (by have := B5.out.size; omega)) i (by omega)
          clear hcc hbw k5 hw5
          go_upto_region 12 with (fail)
          rw [← HW5.out]
          clear HW5
          go_still_tail 5, (by kernel_rfl)
          change wpList _ _ _ _ _ w5.drew
          have HBD : Hid (Below w5.heap.size w5 w5.drew) := Below.drew (Below.refl _ _)
          generalize w5.drew = w8 at *
          go_wp2_with fail
          refine (hasId_any _ _ _ j c hs _ w8 (by omega) (SJ.out _ HBD.out)).mono ?_
          rintro e w9 ⟨rfl, hb⟩
          have HB9 := Lib.hid (B5.out.trans ((HBD.out.trans (hb.mono HBD.out.size)).mono B5.out.size))
          clear hb
          rcases ho : dupE hs j with _ | _
          · have NP2 : Hid (anyTo (j + 1) (dupE hs) = false) := by
              show _ = _
              rw [anyTo_succ, NP.out, ho]; rfl
            unfold dupE at ho
            rw [ho]
            clear ho
            go_wp2
            go_roundw
            case rel => exact ⟨j + 1, by omega, by go_num, NP2.out, HB9.out⟩
            case measure => first | (simp [intOf]; done) | (simp [intOf]; omega)
          · have HF : Hid (hf hs k = 6) := by
              show _ = _
              unfold hf; rw [if_neg hm, if_neg (by rw [NO.out]; decide), if_pos (anyTo_true hlt ho)]
            unfold dupE at ho
            rw [ho]
            clear ho
            go_wp2
            go_ret
            exact ⟨ret_i64 HF.out.symm, HB9.out⟩
        · obtain rfl : j = k := by omega
          have H5 := Lib.hid (H.out.lt.below hbw (Nat.min_le_right _ _))
          clear hbw
          go_wp2_with fail
          refine (heapWith_any _ _ A j c hs _ hn EX.out HA.out H5.out).mono ?_
          rintro e w6 ⟨hb0, A', c', rfl, hh, hb⟩
          have H6 := Lib.hid hh
          have B6 := Lib.hid (HX.out.trans (hb.mono HX.out.size))
          clear hh hb
          go_wp2_with fail
          refine (isInOrder_any _ hb0 A' j c' hs w6 (by omega) H6.out).mono ?_
          rintro e w7 ⟨rfl, hb⟩
          have B7 := Lib.hid (B6.out.trans (hb.mono B6.out.size))
          clear hb
          rcases ho : anyTo (j - 1) (upE hs) with _ | _
          · have HF : Hid (hf hs j = 0) := by
              show _ = _
              unfold hf; rw [if_neg hm, if_neg (by rw [NO.out]; decide), if_neg (by rw [NP.out]; decide), if_neg (by rw [ho]; decide)]
            clear ho
            go_wp2
            go_ret
            exact ⟨ret_i64 HF.out.symm, B7.out⟩
          · have HF : Hid (hf hs j = 1) := by
              show _ = _
              unfold hf; rw [if_neg hm, if_neg (by rw [NO.out]; decide), if_neg (by rw [NP.out]; decide), if_pos ho]
            clear ho
            go_wp2
            go_ret
            exact ⟨ret_i64 HF.out.symm, B7.out⟩

end Go.Proofs.Ytckapndpefkcgaa
