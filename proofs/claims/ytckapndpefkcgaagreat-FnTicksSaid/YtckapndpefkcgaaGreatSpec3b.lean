/-
  The model's KernelFault, for every kernel that can be read. No conditions beyond that its lists can be read.
-/
import Derived.Test.YtckapndpefkcgaaGreatKer2
import Derived.Test.YtckapndpefkcgaaGreatSpec3a
set_option maxHeartbeats 1000000
namespace Go.Proofs.YtckapndpefkcgaaGreat
open Go.RowKit

theorem run_neq_zacc (u x g d : Int) (z : Bool) (h : (u == 0 && x == 0 && g == 0 && d == 0) = !z) (W : World) : (binOp .neq 68 (.agg #[.int .i64 u, .int .i64 x, .int .i64 g, .int .i64 d]) (.agg #[.int .i64 0, .int .i64 0, .int .i64 0, .int .i64 0])).run Tryz.prog W = .ok (.bool z) W := by
  obtain rfl : z = !(u == 0 && x == 0 && g == 0 && d == 0) := by rw [h]; simp
  simp [go_sem]
  try grind

theorem specPhase_any (g : Nat) (t : Int) (w : World) (ht : 0 ≤ t) (q3 : w.cell? ⟨g, 3, none⟩ = some (.int .i64 t)) :
    Calls Tryz.prog 105 #[.pointer (some ⟨g, 0, none⟩)] w fun e w' => e = .returned (.int .i64 (t % 9)) ∧ w = w' := by
  have hmod : t.tmod 9 = t % 9 := Int.tmod_eq_emod_of_nonneg ht
  go_enter Tryz.func105, Tryz.ntmps105
  go_wp2
  go_ret
  exact ⟨by first | rfl | exact ret_i64 hmod, rfl⟩

set_option maxHeartbeats 2000000 in
theorem l3State_any (g lo hi : Nat) (A1 : Option Addr) (n1 c1 : Nat) (A2 : Option Addr) (c2 : Nat) (A3 : Option Addr) (c3 : Nat) (t r : Int) (K : Ker) (w : World) (hbox : w.heap[g]? = some (.cells #[.slice A1 n1 c1, .slice A2 4 c2, .slice A3 4 c3, .int .i64 t, .int .i64 r] 39 (0, 0)))
    (h : KRead w lo hi A1 n1 A2 4 A3 4 K) (hn : n1 ≤ 12) (ho : ∀ k, k < n1 → bad (gi K.os k) = false) (hr : r = -1 ∨ inEnv r = true) (ht : 0 ≤ t ∧ t ≤ 100000) (et : K.tick = t) (er : K.run = r) :
    Calls Tryz.prog 100 #[.pointer (some ⟨g, 0, none⟩)] w fun e w' => e = .returned (.int .i64 (st K)) ∧ Below w.heap.size w w' := by
  obtain ⟨⟨l1, l2, l3⟩, s1, s2, s3⟩ := h
  have S1 := Lib.hid s1.lt; have S2 := Lib.hid s2.lt; have S3 := Lib.hid s3.lt
  have L1 := Lib.hid l1
  have OB := Lib.hid ho
  have hg : g < w.heap.size := (Array.getElem?_eq_some_iff.1 hbox).1
  have QS : Hid (∀ W, Below w.heap.size w W → W.cell? ⟨g, 0, none⟩ = some (.slice A1 n1 c1) ∧ W.cell? ⟨g, 1, none⟩ = some (.slice A2 4 c2) ∧ W.cell? ⟨g, 2, none⟩ = some (.slice A3 4 c3) ∧ W.cell? ⟨g, 3, none⟩ = some (.int .i64 t) ∧ W.cell? ⟨g, 4, none⟩ = some (.int .i64 r)) := fun W hB => by
    have k := (hB.block g hg).trans hbox
    exact ⟨cell_of_row W g 0 _ _ _ k, cell_of_row W g 1 _ _ _ k, cell_of_row W g 2 _ _ _ k, cell_of_row W g 3 _ _ _ k, cell_of_row W g 4 _ _ _ k⟩
  have ET := Lib.hid et; have ER := Lib.hid er; have HRR := Lib.hid hr
  clear s1 s2 s3 l1 l2 l3 ho hbox et er hr
  have R0 : Hid (Below w.heap.size w w) := Below.refl _ _
  obtain ⟨q0, q1, q2, q3, q4⟩ := QS.out w R0.out
  go_enter Tryz.func100, Tryz.ntmps100
  go_wp2
  clear q0 q1 q2 q3 q4
  go_loopw [3] (fun i wr => ∃ k : Nat, k ≤ n1 ∧ i = .int .i64 k ∧ Below w.heap.size w wr ∧ noneTo k (badOwner K)) (fun i _ => n1 - (intOf i).toNat)
  case atStart => exact ⟨0, Nat.zero_le _, rfl, R0.out, fun j hj => absurd hj (Nat.not_lt_zero _)⟩
  case round =>
    obtain ⟨k, hk, rfl, hb, hs⟩ := hrel
    obtain ⟨q0, q1, q2, q3, q4⟩ := QS.out _ hb
    by_cases hlt : k < n1
    · obtain ⟨b, off, rfl, h1, h2, hc⟩ := S1.out.at_ hlt
      have hck := (hb.cell (p := ⟨b, off + k, none⟩) (by simp; omega)).trans (hc k hlt)
      have HB := Lib.hid hb; have HS := Lib.hid hs
      have hob := OB.out k hlt
      by_cases hm : gi K.os k = -1
      · rw [hm] at hck
        have HN : Hid (badOwner K k = false) := by show _ = _; unfold badOwner; rw [hm]; rfl
        clear hb hs hc S1 hob hm
        go_wp2_with fail
        go_quiet (fail)
        go_wp2
        go_roundw
        case rel => exact ⟨k + 1, by omega, by go_num, below_drewN HB.out _, fun j hj => by
          rcases Nat.lt_succ_iff_lt_or_eq.1 hj with h | rfl
          · exact HS.out j h
          · exact HN.out⟩
        case measure => simp [intOf]; omega
      · obtain ⟨e, he, he4⟩ : ∃ e : Nat, gi K.os k = (e : Int) ∧ e < 4 := by
          unfold bad at hob
          simp at hob
          exact ⟨(gi K.os k).toNat, by omega, by omega⟩
        rw [he] at hck
        obtain ⟨b2, off2, rfl, g1, g2, hd⟩ := S2.out.at_ (show e < 4 by omega)
        have hde := (hb.cell (p := ⟨b2, off2 + e, none⟩) (by simp; omega)).trans (hd e he4)
        have hge : (0 : Int) ≤ (e : Int) := by omega
        have hle : (e : Int) < 4 := by omega
        have hne : ((e : Int) == -1) = false := by simp
        have hne2 : ((e : Int) != -1) = true := by simp
        cases ha : gb K.al e
        · have HN : Hid (badOwner K k = true) := by show _ = _; unfold badOwner; rw [he]; simp [ha]
          rw [ha] at hde
          clear hb hs hc hd S1 S2 hob hm he
          go_wp2_with fail
          go_quiet (fail)
          go_wp2
          go_ret
          refine ⟨ret_i64 ?_, below_drewN HB.out _⟩
          unfold st
          rw [if_neg]
          intro hh
          have := hh.1 k (by have := L1.out; omega)
          rw [HN.out] at this
          cases this
        · have HN : Hid (badOwner K k = false) := by show _ = _; unfold badOwner; rw [he]; simp [ha]
          rw [ha] at hde
          clear hb hs hc hd S1 S2 hob hm he
          go_wp2_with fail
          go_quiet (fail)
          go_wp2
          go_roundw
          case rel => exact ⟨k + 1, by omega, by go_num, below_drewN HB.out _, fun j hj => by
            rcases Nat.lt_succ_iff_lt_or_eq.1 hj with h | rfl
            · exact HS.out j h
            · exact HN.out⟩
          case measure => simp [intOf]; omega
    · have HS1 := Lib.hid (show noneTo n1 (badOwner K) from fun j hj => hs j (by omega))
      have HB := Lib.hid hb
      clear hs hb S1 OB
      have PH : Hid (∀ W, Below w.heap.size w W → Calls Tryz.prog 105 #[.pointer (some ⟨g, 0, none⟩)] W fun e w' => e = .returned (.int .i64 (t % 9)) ∧ W = w') := fun W hW => specPhase_any g t W (by omega) (QS.out W hW).2.2.2.1
      have NINE : badRun K = true → Hid (9 = st K) := fun hbr => by
        show _ = _
        unfold st
        rw [if_neg]
        intro hh
        rw [hbr] at hh
        cases hh.2.1
      by_cases hm : r = -1
      · subst hm
        have BR : Hid (badRun K = false) := by show _ = _; unfold badRun; rw [ER.out]; rfl
        go_wp2_with fail
        go_quiet (fail)
        go_wp2
        clear q0 q1 q2 q3 q4
        go_loopw [4] (fun i wz => ∃ k : Nat, k ≤ 4 ∧ i = .int .i64 k ∧ Below w.heap.size w wz ∧ noneTo k (badAcc K)) (fun i _ => 4 - (intOf i).toNat)
        case atStart => exact ⟨0, Nat.zero_le _, rfl, below_drewN HB.out _, fun j hj => absurd hj (Nat.not_lt_zero _)⟩
        case round =>
          obtain ⟨j, hj, rfl, hb, hs⟩ := hrel
          obtain ⟨q0, q1, q2, q3, q4⟩ := QS.out _ hb
          by_cases hlj : j < 4
          · obtain ⟨x2, y2, hA2, z1, z2, hd2⟩ := S2.out.at_ (show j < 4 by omega)
            obtain ⟨x3, y3, rfl, z3, z4, hd3⟩ := S3.out.at_ (show j * 4 < 4 * 4 by omega)
            have hda := (hb.cell (p := ⟨x2, y2 + j, none⟩) (by simp; omega)).trans (hd2 j hlj)
            clear hd2
            cases hA2
            have d0 : _ = some (Value.int .i64 (gi K.ac (j * 4))) := (hb.cell (p := ⟨x3, y3 + j * 4, none⟩) (by simp; omega)).trans (hd3 (j * 4) (by omega))
            have d1 : _ = some (Value.int .i64 (gi K.ac (j * 4 + 1))) := (hb.cell (p := ⟨x3, y3 + j * 4 + 1, none⟩) (by simp; omega)).trans (hd3 (j * 4 + 1) (by omega))
            have d2 : _ = some (Value.int .i64 (gi K.ac (j * 4 + 2))) := (hb.cell (p := ⟨x3, y3 + j * 4 + 2, none⟩) (by simp; omega)).trans (hd3 (j * 4 + 2) (by omega))
            have d3 : _ = some (Value.int .i64 (gi K.ac (j * 4 + 3))) := (hb.cell (p := ⟨x3, y3 + j * 4 + 3, none⟩) (by simp; omega)).trans (hd3 (j * 4 + 3) (by omega))
            have HB2 := Lib.hid hb; have HS := Lib.hid hs
            have GOON : badAcc K j = false → Hid (noneTo (j + 1) (badAcc K)) := fun h0 i hi => by
              rcases Nat.lt_succ_iff_lt_or_eq.1 hi with h | rfl
              · exact HS.out i h
              · exact h0
            cases ha : gb K.al j
            · rw [ha] at hda
              cases hz : (gi K.ac (j * 4) == 0 && gi K.ac (j * 4 + 1) == 0 && gi K.ac (j * 4 + 2) == 0 && gi K.ac (j * 4 + 3) == 0)
              · have nz := run_neq_zacc _ _ _ _ true hz
                have BA : Hid (badAcc K j = true) := by show _ = _; unfold badAcc; rw [ha, hz]; rfl
                clear hb hs hd3 hz S2 S3 GOON
                go_wp2
                go_ret
                refine ⟨ret_i64 ?_, HB2.out⟩
                unfold st
                rw [if_neg]
                intro hh
                have := hh.2.2 j hlj
                rw [BA.out] at this
                cases this
              · have nz := run_neq_zacc _ _ _ _ false hz
                have GO := GOON (by unfold badAcc; rw [ha, hz]; rfl)
                clear hb hs hd3 hz S2 S3 GOON
                go_wp2
                go_roundw
                case rel => exact ⟨j + 1, by omega, by go_num, HB2.out, GO.out⟩
                case measure => simp [intOf]; omega
            · rw [ha] at hda
              have GO := GOON (by unfold badAcc; rw [ha]; rfl)
              clear hb hs hd3 S2 S3 GOON d0 d1 d2 d3
              go_wp2
              go_roundw
              case rel => exact ⟨j + 1, by omega, by go_num, HB2.out, GO.out⟩
              case measure => simp [intOf]; omega
          · have HS2 := Lib.hid hs
            have HB2 := Lib.hid hb
            clear hs hb S2 S3
            go_wp2
            go_ret
            refine ⟨ret_i64 ?_, HB2.out⟩
            unfold st
            rw [if_pos ⟨by rw [L1.out]; exact HS1.out, BR.out, fun i hi => HS2.out i (by omega)⟩]
      · obtain ⟨e, he, he4⟩ : ∃ e : Nat, r = (e : Int) ∧ e < 4 := by
          have h0 := HRR.out
          have h1 : inEnv r = true := by rcases h0 with h | h; exact absurd h hm; exact h
          unfold inEnv at h1
          simp at h1
          exact ⟨r.toNat, by omega, by omega⟩
        subst he
        obtain ⟨b2, off2, rfl, g1, g2, hd⟩ := S2.out.at_ (show e < 4 by omega)
        have hde := (HB.out.cell (p := ⟨b2, off2 + e, none⟩) (by simp; omega)).trans (hd e he4)
        have hge : (0 : Int) ≤ (e : Int) := by omega
        have hle : (e : Int) < 4 := by omega
        have hne : ((e : Int) == -1) = false := by simp
        have hne2 : ((e : Int) != -1) = true := by simp
        clear hm
        cases ha : gb K.al e
        · have BR := NINE (by unfold badRun; rw [ER.out]; simp [ha])
          rw [ha] at hde
          clear hd S2
          go_wp2_with fail
          go_quiet (fail)
          go_wp2
          go_ret
          exact ⟨ret_i64 BR.out, below_drewN HB.out _⟩
        · rw [ha] at hde
          cases hp : (t % 9 == 0)
          · have BR : Hid (badRun K = false) := by show _ = _; unfold badRun; rw [ER.out, ET.out]; simp [ha, hp]
            clear hd
            go_wp2_with fail
            go_quiet (refine Calls.quiet_of_same ((PH.out _ (below_drewN HB.out _)).mono fun e9 w9 h9 => ⟨h9.1, h9.2.symm⟩))
            go_wp2
            clear q0 q1 q2 q3 q4
            go_loopw [4] (fun i wz => ∃ k : Nat, k ≤ 4 ∧ i = .int .i64 k ∧ Below w.heap.size w wz ∧ noneTo k (badAcc K)) (fun i _ => 4 - (intOf i).toNat)
            case atStart => exact ⟨0, Nat.zero_le _, rfl, below_drewN HB.out _, fun j hj => absurd hj (Nat.not_lt_zero _)⟩
            case round =>
              obtain ⟨j, hj, rfl, hb, hs⟩ := hrel
              obtain ⟨q0, q1, q2, q3, q4⟩ := QS.out _ hb
              by_cases hlj : j < 4
              · obtain ⟨x2, y2, hA2, z1, z2, hd2⟩ := S2.out.at_ (show j < 4 by omega)
                obtain ⟨x3, y3, rfl, z3, z4, hd3⟩ := S3.out.at_ (show j * 4 < 4 * 4 by omega)
                have hda := (hb.cell (p := ⟨x2, y2 + j, none⟩) (by simp; omega)).trans (hd2 j hlj)
                clear hd2
                cases hA2
                have d0 : _ = some (Value.int .i64 (gi K.ac (j * 4))) := (hb.cell (p := ⟨x3, y3 + j * 4, none⟩) (by simp; omega)).trans (hd3 (j * 4) (by omega))
                have d1 : _ = some (Value.int .i64 (gi K.ac (j * 4 + 1))) := (hb.cell (p := ⟨x3, y3 + j * 4 + 1, none⟩) (by simp; omega)).trans (hd3 (j * 4 + 1) (by omega))
                have d2 : _ = some (Value.int .i64 (gi K.ac (j * 4 + 2))) := (hb.cell (p := ⟨x3, y3 + j * 4 + 2, none⟩) (by simp; omega)).trans (hd3 (j * 4 + 2) (by omega))
                have d3 : _ = some (Value.int .i64 (gi K.ac (j * 4 + 3))) := (hb.cell (p := ⟨x3, y3 + j * 4 + 3, none⟩) (by simp; omega)).trans (hd3 (j * 4 + 3) (by omega))
                have HB2 := Lib.hid hb; have HS := Lib.hid hs
                have GOON : badAcc K j = false → Hid (noneTo (j + 1) (badAcc K)) := fun h0 i hi => by
                  rcases Nat.lt_succ_iff_lt_or_eq.1 hi with h | rfl
                  · exact HS.out i h
                  · exact h0
                cases ha : gb K.al j
                · rw [ha] at hda
                  cases hz : (gi K.ac (j * 4) == 0 && gi K.ac (j * 4 + 1) == 0 && gi K.ac (j * 4 + 2) == 0 && gi K.ac (j * 4 + 3) == 0)
                  · have nz := run_neq_zacc _ _ _ _ true hz
                    have BA : Hid (badAcc K j = true) := by show _ = _; unfold badAcc; rw [ha, hz]; rfl
                    clear hb hs hd3 hz S2 S3 GOON
                    go_wp2
                    go_ret
                    refine ⟨ret_i64 ?_, HB2.out⟩
                    unfold st
                    rw [if_neg]
                    intro hh
                    have := hh.2.2 j hlj
                    rw [BA.out] at this
                    cases this
                  · have nz := run_neq_zacc _ _ _ _ false hz
                    have GO := GOON (by unfold badAcc; rw [ha, hz]; rfl)
                    clear hb hs hd3 hz S2 S3 GOON
                    go_wp2
                    go_roundw
                    case rel => exact ⟨j + 1, by omega, by go_num, HB2.out, GO.out⟩
                    case measure => simp [intOf]; omega
                · rw [ha] at hda
                  have GO := GOON (by unfold badAcc; rw [ha]; rfl)
                  clear hb hs hd3 S2 S3 GOON d0 d1 d2 d3
                  go_wp2
                  go_roundw
                  case rel => exact ⟨j + 1, by omega, by go_num, HB2.out, GO.out⟩
                  case measure => simp [intOf]; omega
              · have HS2 := Lib.hid hs
                have HB2 := Lib.hid hb
                clear hs hb S2 S3
                go_wp2
                go_ret
                refine ⟨ret_i64 ?_, HB2.out⟩
                unfold st
                rw [if_pos ⟨by rw [L1.out]; exact HS1.out, BR.out, fun i hi => HS2.out i (by omega)⟩]
          · have BR := NINE (by unfold badRun; rw [ER.out, ET.out]; simp [ha, hp])
            clear hd
            go_wp2_with fail
            go_quiet (refine Calls.quiet_of_same ((PH.out _ (below_drewN HB.out _)).mono fun e9 w9 h9 => ⟨h9.1, h9.2.symm⟩))
            go_wp2
            go_ret
            exact ⟨ret_i64 BR.out, below_drewN HB.out _⟩

end Go.Proofs.YtckapndpefkcgaaGreat
