/-
  The model's functions of chapter 4 on heaps: faults, copies, children. No conditions beyond that the heap can be read.
-/
import Derived.Laws.AppendOwnNone
import Derived.BigRegion
import Derived.BigQuiet
import Derived.StillTailTactics
import Derived.Deep.RegionHeld3
import Derived.Test.YtckapndpefkcgaaKit4
import Derived.Test.YtckapndpefkcgaaMath4
import Derived.Test.YtckapndpefkcgaaSpec4a
import Derived.Test.YtckapndpefkcgaaOwn4
set_option maxHeartbeats 1000000
namespace Go.Proofs.Ytckapndpefkcgaa
open Go.RowKit
set_option maxRecDepth 100000

theorem half_pred (k : Nat) : ((k : Int)).tdiv 2 = ((k / 2 : Nat) : Int) := by
  rw [Int.tdiv_eq_ediv_of_nonneg (by omega)]; rfl

set_option maxHeartbeats 1000000 in
theorem specHeapFault_any (lo hi : Nat) (A : Option Addr) (n c : Nat) (hs : List Int) (w : World) (hn : n * 16 ≤ 140737488351232) (h : Sl w lo hi A (n * 2) (fun k => .int .i64 (gi hs k))) :
    Calls Try.prog 24 #[.slice A n c] w fun e w' => e = .returned (.int .i64 (hf hs n)) ∧ Below w.heap.size w w' := by
  have H := Lib.hid h
  clear h
  by_cases hm : 12 < n
  · go_enter Try.func24, Try.ntmps24
    go_wp2
    go_ret
    exact ⟨ret_i64 (by unfold hf; rw [if_pos hm]), Below.refl _ _⟩
  go_enter Try.func24, Try.ntmps24
  go_wp2
  go_loop [3] (fun i => ∃ k : Nat, k ≤ n ∧ i = .int .i64 k ∧ anyTo k (badE hs) = false) (fun i => n - (intOf i).toNat)
  case atStart => exact ⟨0, Nat.zero_le _, rfl, rfl⟩
  case round =>
    obtain ⟨k, hk, rfl, hno⟩ := hrel
    have NO := Lib.hid hno
    clear hno
    by_cases hlt : k < n
    · obtain ⟨b, off, rfl, h1, h2, hc⟩ := H.out.at_ (show k * 2 < n * 2 by omega)
      have c0 : w.cell? ⟨b, off + k * 2, none⟩ = some (.int .i64 (gi hs (k * 2))) := hc (k * 2) (by omega)
      have c1 : w.cell? ⟨b, off + k * 2 + 1, none⟩ = some (.int .i64 (gi hs (k * 2 + 1))) := hc (k * 2 + 1) (by omega)
      clear hc H
      have LE := Lib.hid (l4Entry_any b (off + k * 2) _ _ w c0 c1)
      clear c0 c1
      rcases ho : okE (gi hs (k * 2)) (gi hs (k * 2 + 1)) with _ | _
      · rw [ho] at LE
        have HF : Hid (hf hs n = 3) := by
          show _ = _
          unfold hf; rw [if_neg hm, if_pos (anyTo_true hlt (by unfold badE; rw [ho]; rfl))]
        clear ho
        go_wp2_with fail
        refine LE.out.mono ?_
        rintro e w' ⟨rfl, rfl⟩
        go_wp2
        go_ret
        exact ⟨ret_i64 HF.out.symm, Below.refl _ _⟩
      · rw [ho] at LE
        have NO2 : Hid (anyTo (k + 1) (badE hs) = false) := by
          show _ = _
          rw [anyTo_succ, NO.out]; unfold badE; rw [ho]; rfl
        clear ho
        go_wp2_with fail
        refine LE.out.mono ?_
        rintro e w' ⟨rfl, rfl⟩
        go_wp2
        go_round
        case rel => exact ⟨k + 1, by omega, by go_num, NO2.out⟩
        case measure => simp [intOf]; omega
    · obtain rfl : k = n := by omega
      go_wp2
      go_loop [4] (fun i => ∃ j : Nat, j ≤ k ∧ i = .int .i64 j ∧ anyTo j (dupE hs) = false) (fun i => k - (intOf i).toNat)
      case atStart => exact ⟨0, Nat.zero_le _, rfl, rfl⟩
      case round =>
        obtain ⟨j, hj, rfl, hno⟩ := hrel
        have NP := Lib.hid hno
        clear hno
        by_cases hlt : j < k
        · have LF := Lib.hid (l4Find_any lo hi A k c hs (gi hs (j * 2 + 1)) w (by omega) H.out)
          obtain ⟨b, off, rfl, h1, h2, hc⟩ := H.out.at_ (show j * 2 < k * 2 by omega)
          have c1 : w.cell? ⟨b, off + j * 2 + 1, none⟩ = some (.int .i64 (gi hs (j * 2 + 1))) := hc (j * 2 + 1) (by omega)
          clear hc H
          go_wp2_with fail
          refine LF.out.mono ?_
          rintro e w' ⟨r, hr, rfl, rfl⟩
          have hd := fnd_dup hr hlt
          clear hr LF
          rcases ho : dupE hs j with _ | _
          · rw [ho] at hd
            have NP2 : Hid (anyTo (j + 1) (dupE hs) = false) := by
              show _ = _
              rw [anyTo_succ, NP.out, ho]; rfl
            have hr : r = (j : Int) := by simpa using hd
            subst hr
            clear ho hd
            go_wp2
            go_round
            case rel => exact ⟨j + 1, by omega, by go_num, NP2.out⟩
            case measure => simp [intOf]; omega
          · have HF : Hid (hf hs k = 6) := by
              show _ = _
              unfold hf; rw [if_neg hm, if_neg (by rw [NO.out]; decide), if_pos (anyTo_true hlt ho)]
            rw [ho] at hd
            have hr : ¬ r = (j : Int) := by simpa using hd
            clear ho hd
            go_wp2
            go_ret
            exact ⟨ret_i64 HF.out.symm, Below.refl _ _⟩
        · obtain rfl : j = k := by omega
          go_wp2
          go_loopw [5] (fun i wr => ∃ m : Nat, (m + 1 ≤ j ∨ m = 0) ∧ i = .int .i64 ((m : Int) + 1) ∧ anyTo m (upE hs) = false ∧ Below w.heap.size w wr) (fun i _ => j + 1 - (intOf i).toNat)
          case atStart => exact ⟨0, .inr rfl, rfl, rfl, Below.refl _ _⟩
          case round =>
            obtain ⟨m, hm', rfl, hno, hb⟩ := hrel
            have NQ := Lib.hid hno
            have HB := Lib.hid hb
            clear hno
            by_cases hlt : m + 1 < j
            · obtain ⟨b, off, rfl, h1, h2, hc⟩ := H.out.lt.at_ (show m * 2 < j * 2 by omega)
              have c0 : wr.cell? ⟨b, off + (m + 1) * 2, none⟩ = some (.int .i64 (gi hs ((m + 1) * 2))) := (hb.cell (p := ⟨b, off + (m + 1) * 2, none⟩) (by simp; omega)).trans (hc ((m + 1) * 2) (by omega))
              have c1 : wr.cell? ⟨b, off + (m + 1) * 2 + 1, none⟩ = some (.int .i64 (gi hs ((m + 1) * 2 + 1))) := (hb.cell (p := ⟨b, off + ((m + 1) * 2 + 1), none⟩) (by simp; omega)).trans (hc ((m + 1) * 2 + 1) (by omega))
              obtain ⟨u, hu⟩ : ∃ u : Nat, u = m / 2 := ⟨_, rfl⟩
              have hh : ((m : Int)).tdiv 2 = (u : Int) := by rw [hu]; exact half_pred m
              have hul : u < j := by omega
              have d0 : wr.cell? ⟨b, off + u * 2, none⟩ = some (.int .i64 (gi hs (u * 2))) := (hb.cell (p := ⟨b, off + u * 2, none⟩) (by simp; omega)).trans (hc (u * 2) (by omega))
              have d1 : wr.cell? ⟨b, off + u * 2 + 1, none⟩ = some (.int .i64 (gi hs (u * 2 + 1))) := (hb.cell (p := ⟨b, off + (u * 2 + 1), none⟩) (by simp; omega)).trans (hc (u * 2 + 1) (by omega))
              have hl1 : (m : Int) + 1 < j := by omega
              have hl2 : (u : Int) < j := by omega
              have hl3 : (0 : Int) ≤ (u : Int) := by omega
              have hl0 : (0 : Int) ≤ (m : Int) + 1 := by omega
              have w1 : IntKind.i64.wrap (m : Int) = m := IntWalk.i64_in _ (by omega)
              have w2 : IntKind.i64.wrap (u : Int) = u := IntWalk.i64_in _ (by omega)
              clear hc H hb
              rcases ho : upE hs m with _ | _
              · have NX : Hid (anyTo (m + 1) (upE hs) = false) := by show _ = _; rw [anyTo_succ, NQ.out, ho]; rfl
                unfold upE less4 at ho
                rw [← hu] at ho
                clear hu hm hul
                go_wp2_with fail
                go_region_with (refine (specIsLess_any _ _ _ _ _).mono ?_; rintro e w1 ⟨rfl, hb1⟩; rw [ho]; have HB1 := Lib.hid ((below_drewN HB.out 1).trans (hb1.mono HB.out.size)); clear hb1)
                all_goals
                  go_wp2
                  go_roundw
                  case rel => exact ⟨m + 1, by omega, by go_num, NX.out, HB1.out⟩
                  case measure => simp [intOf]; omega
              · have HF : Hid (hf hs j = 1) := by
                  show _ = _
                  unfold hf; rw [if_neg hm, if_neg (by rw [NO.out]; decide), if_neg (by rw [NP.out]; decide), if_pos (anyTo_true (i := m) (by omega) ho)]
                unfold upE less4 at ho
                rw [← hu] at ho
                clear hu hm hul
                go_wp2_with fail
                go_region_with (refine (specIsLess_any _ _ _ _ _).mono ?_; rintro e w1 ⟨rfl, hb1⟩; rw [ho]; have HB1 := Lib.hid ((below_drewN HB.out 1).trans (hb1.mono HB.out.size)); clear hb1)
                all_goals
                  go_wp2
                  go_ret
                  exact ⟨ret_i64 HF.out.symm, HB1.out⟩
            · have HF : Hid (hf hs j = 0) := by
                show _ = _
                have e : j - 1 = m := by omega
                unfold hf; rw [if_neg hm, if_neg (by rw [NO.out]; decide), if_neg (by rw [NP.out]; decide), e, if_neg (by rw [NQ.out]; decide)]
              have hl1 : ¬ (m : Int) + 1 < j := by omega
              clear hb
              go_wp2
              go_ret
              exact ⟨ret_i64 HF.out.symm, HB.out⟩

end Go.Proofs.Ytckapndpefkcgaa
