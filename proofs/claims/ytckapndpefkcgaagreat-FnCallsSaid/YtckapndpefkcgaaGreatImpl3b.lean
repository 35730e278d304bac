/-
  The program's KernelFault, and what it is made of: for every kernel it answers as the model's. No conditions beyond that its lists can be read.
-/
import Derived.Test.YtckapndpefkcgaaGreatImpl1d
import Derived.Test.YtckapndpefkcgaaGreatImplAcc2
import Derived.Test.YtckapndpefkcgaaGreatSpec3b
set_option maxHeartbeats 1000000
namespace Go.Proofs.YtckapndpefkcgaaGreat
open Go.RowKit
set_option maxRecDepth 100000

theorem st_iff (K : Ker) : st K = 0 ↔ (noneTo K.os.length (badOwner K) ∧ badRun K = false ∧ noneTo 4 (badAcc K)) := by
  unfold st
  by_cases h : noneTo K.os.length (badOwner K) ∧ badRun K = false ∧ noneTo 4 (badAcc K)
  · rw [if_pos h]; exact ⟨fun _ => h, fun _ => rfl⟩
  · rw [if_neg h]; exact ⟨fun e => absurd e (by decide), fun e => absurd e h⟩
theorem st_two (K : Ker) : st K = 0 ∨ st K = 9 := by
  unfold st
  split
  · exact .inl rfl
  · exact .inr rfl
theorem ret_dec3 {p : Prop} [Decidable p] {b : Bool} (h : p ↔ b = true) : Ending.returned (.bool b) = .returned (.bool (decide p)) := by
  cases b
  · rw [decide_eq_false (fun hp => by have := h.1 hp; cases this)]
  · rw [decide_eq_true (h.2 rfl)]

theorem phaseOf_any (a b c : Value) (t r : Int) (w : World) (ht : 0 ≤ t) :
    Calls Tryz.prog 101 #[.agg #[a, b, c, .int .i64 t, .int .i64 r]] w fun e w' => e = .returned (.int .i64 (t % 9)) ∧ Below w.heap.size w w' := by
  have hmod : t.tmod 9 = t % 9 := Int.tmod_eq_emod_of_nonneg ht
  have B1 := Lib.hid (below_new w (.cells #[a, b, c, .int .i64 t, .int .i64 r] 39))
  go_enter Tryz.func101, Tryz.ntmps101
  go_wp2
  go_ret
  exact ⟨by first | rfl | exact ret_i64 hmod, B1.out⟩

def oneNo (v : Int) : Bool := v == -1 || inEnv v
theorem isOneOrNobody_any (v : Int) (w : World) :
    Calls Tryz.prog 81 #[.int .i64 v] w fun e w' => e = .returned (.bool (oneNo v)) ∧ w = w' := by
  unfold oneNo
  have IE := Lib.hid (isEnv_any v)
  rcases hv : (v == -1) with _ | _
  · generalize inEnv v = b at *
    go_enter Tryz.func81, Tryz.ntmps81
    go_wp2_with fail
    refine (IE.out _).mono ?_
    rintro e w' ⟨rfl, rfl⟩
    go_wp2
    go_ret
    exact ⟨by simp, rfl⟩
  · go_enter Tryz.func81, Tryz.ntmps81
    go_wp2
    go_ret
    exact ⟨by simp, rfl⟩

set_option maxHeartbeats 4000000 in
theorem fitsTogether_any (lo hi : Nat) (A1 : Option Addr) (n1 c1 : Nat) (A2 : Option Addr) (c2 : Nat) (A3 : Option Addr) (c3 : Nat) (t r : Int) (K : Ker) (w : World)
    (h : KRead w lo hi A1 n1 A2 4 A3 4 K) (hn : n1 ≤ 12) (ho : ∀ k, k < n1 → bad (gi K.os k) = false) (hr : r = -1 ∨ inEnv r = true) (ht : 0 ≤ t ∧ t ≤ 100000) (et : K.tick = t) (er : K.run = r) :
    Calls Tryz.prog 82 #[.agg #[.slice A1 n1 c1, .slice A2 4 c2, .slice A3 4 c3, .int .i64 t, .int .i64 r]] w fun e w' => e = .returned (.bool (decide (st K = 0))) ∧ Below w.heap.size w w' := by
  obtain ⟨w1, hW1⟩ : ∃ w1, w1 = w.alloc (.cells #[.slice A1 n1 c1, .slice A2 4 c2, .slice A3 4 c3, .int .i64 t, .int .i64 r] 39) := ⟨_, rfl⟩
  have hbox : w1.heap[w.heap.size]? = some (.cells #[.slice A1 n1 c1, .slice A2 4 c2, .slice A3 4 c3, .int .i64 t, .int .i64 r] 39 (0, 0)) := by rw [hW1]; exact heap_alloc_new w _
  have B1 : Hid (Below w.heap.size w w1) := by rw [hW1]; exact below_new w _
  have hg : w.heap.size < w1.heap.size := (Array.getElem?_eq_some_iff.1 hbox).1
  obtain ⟨⟨l1, l2, l3⟩, s1, s2, s3⟩ := h.lt.below B1.out (Nat.min_le_right _ _)
  have S1 := Lib.hid s1.lt; have S2 := Lib.hid s2.lt; have S3 := Lib.hid s3.lt
  have L1 := Lib.hid l1
  have OB := Lib.hid ho
  have QS : Hid (∀ W, Below w1.heap.size w1 W → W.cell? ⟨w.heap.size, 0, none⟩ = some (.slice A1 n1 c1) ∧ W.cell? ⟨w.heap.size, 1, none⟩ = some (.slice A2 4 c2) ∧ W.cell? ⟨w.heap.size, 2, none⟩ = some (.slice A3 4 c3) ∧ W.cell? ⟨w.heap.size, 3, none⟩ = some (.int .i64 t) ∧ W.cell? ⟨w.heap.size, 4, none⟩ = some (.int .i64 r)) := fun W hB => by
    have k := (hB.block _ hg).trans hbox
    exact ⟨cell_of_row W _ 0 _ _ _ k, cell_of_row W _ 1 _ _ _ k, cell_of_row W _ 2 _ _ _ k, cell_of_row W _ 3 _ _ _ k, cell_of_row W _ 4 _ _ _ k⟩
  have ET := Lib.hid et; have ER := Lib.hid er; have HRR := Lib.hid hr
  have HG := Lib.hid hg
  clear s1 s2 s3 l1 l2 l3 ho hbox et er hr h hg
  have R0 : Hid (Below w1.heap.size w1 w1) := Below.refl _ _
  have FR : Hid (∀ W, Below w1.heap.size w1 W → Below w.heap.size w W) := fun W hW => B1.out.trans (hW.mono (by have := HG.out; omega))
  have NO : Hid (st K ≠ 0 → Ending.returned (.bool false) = .returned (.bool (decide (st K = 0)))) := fun h => by rw [decide_eq_false h]
  obtain ⟨q0, q1, q2, q3, q4⟩ := QS.out w1 R0.out
  go_enter Tryz.func82, Tryz.ntmps82
  go_upto_region 1 with (fail)
  rw [← hW1]
  clear hW1
  go_wp2
  clear q0 q1 q2 q3 q4
  go_loopw [10] (fun i wr => ∃ k : Nat, k ≤ n1 ∧ i = .int .i64 k ∧ Below w1.heap.size w1 wr ∧ noneTo k (badOwner K)) (fun i _ => n1 - (intOf i).toNat)
  case atStart => exact ⟨0, Nat.zero_le _, rfl, R0.out, fun j hj => absurd hj (Nat.not_lt_zero _)⟩
  case round =>
    obtain ⟨k, hk, rfl, hb, hs⟩ := hrel
    obtain ⟨q0, q1, q2, q3, q4⟩ := QS.out _ hb
    by_cases hlt : k < n1
    · obtain ⟨b, off, rfl, h1, h2, hc⟩ := S1.out.at_ hlt
      have hck := (hb.cell (p := ⟨b, off + k, none⟩) (by simp; omega)).trans (hc k hlt)
      have HB := Lib.hid hb; have HS := Lib.hid hs
      have hob := OB.out k hlt
      by_cases hm : gi K.os k = -1
      · rw [hm] at hck
        have HN : Hid (badOwner K k = false) := by show _ = _; unfold badOwner; rw [hm]; rfl
        clear hb hs hc S1 hob hm
        go_wp2
        go_roundw
        case rel => exact ⟨k + 1, by omega, by go_num, HB.out, fun j hj => by
          rcases Nat.lt_succ_iff_lt_or_eq.1 hj with h | rfl
          · exact HS.out j h
          · exact HN.out⟩
        case measure => simp [intOf]; omega
      · obtain ⟨e, he, he4⟩ : ∃ e : Nat, gi K.os k = (e : Int) ∧ e < 4 := by
          unfold bad at hob
          simp at hob
          exact ⟨(gi K.os k).toNat, by omega, by omega⟩
        rw [he] at hck
        obtain ⟨b2, off2, rfl, g1, g2, hd⟩ := S2.out.at_ (show e < 4 by omega)
        have hde := (hb.cell (p := ⟨b2, off2 + e, none⟩) (by simp; omega)).trans (hd e he4)
        have hge : (0 : Int) ≤ (e : Int) := by omega
        have hle : (e : Int) < 4 := by omega
        have hne : ((e : Int) == -1) = false := by simp
        have hne2 : ((e : Int) != -1) = true := by simp
        cases ha : gb K.al e
        · have HN : Hid (badOwner K k = true) := by show _ = _; unfold badOwner; rw [he]; simp [ha]
          rw [ha] at hde
          clear hb hs hc hd S1 S2 hob hm he
          go_wp2
          go_ret
          refine ⟨NO.out ?_, FR.out _ HB.out⟩
          intro hh
          have := ((st_iff K).1 hh).1 k (by have := L1.out; omega)
          rw [HN.out] at this
          cases this
        · have HN : Hid (badOwner K k = false) := by show _ = _; unfold badOwner; rw [he]; simp [ha]
          rw [ha] at hde
          clear hb hs hc hd S1 S2 hob hm he
          go_wp2
          go_roundw
          case rel => exact ⟨k + 1, by omega, by go_num, HB.out, fun j hj => by
            rcases Nat.lt_succ_iff_lt_or_eq.1 hj with h | rfl
            · exact HS.out j h
            · exact HN.out⟩
          case measure => simp [intOf]; omega
    · have HS1 := Lib.hid (show noneTo n1 (badOwner K) from fun j hj => hs j (by omega))
      have HB := Lib.hid hb
      clear hs hb S1 OB
      go_wp2
      clear q0 q1 q2 q3 q4
      go_loopw [28] (fun i wz => ∃ k : Nat, k ≤ 4 ∧ i = .int .i64 k ∧ Below w1.heap.size w1 wz ∧ noneTo k (badAcc K)) (fun i _ => 4 - (intOf i).toNat)
      case atStart => exact ⟨0, Nat.zero_le _, rfl, HB.out, fun j hj => absurd hj (Nat.not_lt_zero _)⟩
      case round =>
        obtain ⟨j, hj, rfl, hb, hs⟩ := hrel
        obtain ⟨q0, q1, q2, q3, q4⟩ := QS.out _ hb
        by_cases hlj : j < 4
        · obtain ⟨x2, y2, hA2, z1, z2, hd2⟩ := S2.out.at_ (show j < 4 by omega)
          obtain ⟨x3, y3, rfl, z3, z4, hd3⟩ := S3.out.at_ (show j * 4 < 4 * 4 by omega)
          have hda := (hb.cell (p := ⟨x2, y2 + j, none⟩) (by simp; omega)).trans (hd2 j hlj)
          clear hd2
          cases hA2
          have d0 : _ = some (Value.int .i64 (gi K.ac (j * 4))) := (hb.cell (p := ⟨x3, y3 + j * 4, none⟩) (by simp; omega)).trans (hd3 (j * 4) (by omega))
          have d1 : _ = some (Value.int .i64 (gi K.ac (j * 4 + 1))) := (hb.cell (p := ⟨x3, y3 + j * 4 + 1, none⟩) (by simp; omega)).trans (hd3 (j * 4 + 1) (by omega))
          have d2 : _ = some (Value.int .i64 (gi K.ac (j * 4 + 2))) := (hb.cell (p := ⟨x3, y3 + j * 4 + 2, none⟩) (by simp; omega)).trans (hd3 (j * 4 + 2) (by omega))
          have d3 : _ = some (Value.int .i64 (gi K.ac (j * 4 + 3))) := (hb.cell (p := ⟨x3, y3 + j * 4 + 3, none⟩) (by simp; omega)).trans (hd3 (j * 4 + 3) (by omega))
          have HB2 := Lib.hid hb; have HS := Lib.hid hs
          have HB3 : Hid (∀ o, Below w1.heap.size w1 (wr.alloc o)) := fun o => hb.alloc hb.size o
          have CA2 : Hid (∀ o, (wr.alloc o).cell? ⟨x2, y2 + j, none⟩ = wr.cell? ⟨x2, y2 + j, none⟩) := fun o => (below_new wr o).cell (p := ⟨x2, y2 + j, none⟩) (by have := hb.size; simp; omega)
          have GOON : badAcc K j = false → Hid (noneTo (j + 1) (badAcc K)) := fun h0 i hi => by
            rcases Nat.lt_succ_iff_lt_or_eq.1 hi with h | rfl
            · exact HS.out i h
            · exact h0
          have QA : Hid (∀ o, (wr.alloc o).cell? ⟨w.heap.size, 1, none⟩ = some (.slice (some ⟨x2, y2, none⟩) 4 c2)) := fun o => (QS.out _ (HB3.out o)).2.1
          have qa := QA.out (.cells #[.int .i64 (gi K.ac (j * 4)), .int .i64 (gi K.ac (j * 4 + 1)), .int .i64 (gi K.ac (j * 4 + 2)), .int .i64 (gi K.ac (j * 4 + 3))] 68)
          have ca := (CA2.out (.cells #[.int .i64 (gi K.ac (j * 4)), .int .i64 (gi K.ac (j * 4 + 1)), .int .i64 (gi K.ac (j * 4 + 2)), .int .i64 (gi K.ac (j * 4 + 3))] 68)).trans hda
          cases ha : gb K.al j
          · rw [ha] at hda ca
            cases hz : (gi K.ac (j * 4) == 0 && gi K.ac (j * 4 + 1) == 0 && gi K.ac (j * 4 + 2) == 0 && gi K.ac (j * 4 + 3) == 0)
            · have nz := run_neq_zacc _ _ _ _ true hz
              have BA : Hid (badAcc K j = true) := by show _ = _; unfold badAcc; rw [ha, hz]; rfl
              clear hb hs hd3 hz S2 S3 GOON
              go_wp2
              go_ret
              refine ⟨NO.out ?_, FR.out _ (HB3.out _)⟩
              intro hh
              have := ((st_iff K).1 hh).2.2 j hlj
              rw [BA.out] at this
              cases this
            · have nz := run_neq_zacc _ _ _ _ false hz
              have GO := GOON (by unfold badAcc; rw [ha, hz]; rfl)
              clear hb hs hd3 hz S2 S3 GOON
              go_wp2
              go_roundw
              case rel => exact ⟨j + 1, by omega, by go_num, HB3.out _, GO.out⟩
              case measure => simp [intOf]; omega
          · rw [ha] at hda ca
            have GO := GOON (by unfold badAcc; rw [ha]; rfl)
            clear hb hs hd3 S2 S3 GOON
            go_wp2
            go_roundw
            case rel => exact ⟨j + 1, by omega, by go_num, HB3.out _, GO.out⟩
            case measure => simp [intOf]; omega
        · have HS2 := Lib.hid (show noneTo 4 (badAcc K) from fun i hi => hs i (by omega))
          have HB2 := Lib.hid hb
          clear hs hb S3
          have ST : Hid (∀ b : Bool, badRun K = !b → Ending.returned (.bool b) = .returned (.bool (decide (st K = 0)))) := fun b hb => ret_dec3 (by
            rw [st_iff]
            cases b
            · simp at hb; simp [hb]
            · simp at hb; simp [hb]; exact ⟨by rw [L1.out]; exact HS1.out, HS2.out⟩)
          have PH : Hid (∀ W, Below w1.heap.size w1 W → Calls Tryz.prog 101 #[.agg #[.slice A1 n1 c1, .slice A2 4 c2, .slice A3 4 c3, .int .i64 t, .int .i64 r]] W fun e w' => e = .returned (.int .i64 (t % 9)) ∧ Below w1.heap.size w1 w') := fun W hW =>
            (phaseOf_any _ _ _ t r W ht.1).mono fun e w' hh => ⟨hh.1, hW.trans (hh.2.mono hW.size)⟩
          by_cases hm : r = -1
          · subst hm
            have BR : Hid (badRun K = !true) := by show _ = _; unfold badRun; rw [ER.out]; rfl
            go_wp2
            go_ret
            exact ⟨ST.out _ BR.out, FR.out _ HB2.out⟩
          · obtain ⟨e, he, he4⟩ : ∃ e : Nat, r = (e : Int) ∧ e < 4 := by
              have h0 := HRR.out
              have h1 : inEnv r = true := by rcases h0 with h | h; exact absurd h hm; exact h
              unfold inEnv at h1
              simp at h1
              exact ⟨r.toNat, by omega, by omega⟩
            subst he
            obtain ⟨b2, off2, rfl, g1, g2, hd⟩ := S2.out.at_ (show e < 4 by omega)
            have hde := (HB2.out.cell (p := ⟨b2, off2 + e, none⟩) (by simp; omega)).trans (hd e he4)
            have hge : (0 : Int) ≤ (e : Int) := by omega
            have hle : (e : Int) < 4 := by omega
            have hne : ((e : Int) == -1) = false := by simp
            have hne2 : ((e : Int) != -1) = true := by simp
            clear hm
            cases ha : gb K.al e
            · have BR : Hid (badRun K = !false) := by show _ = _; unfold badRun; rw [ER.out]; simp [ha]
              rw [ha] at hde
              clear hd S2
              go_wp2
              go_ret
              exact ⟨ST.out _ BR.out, FR.out _ HB2.out⟩
            · rw [ha] at hde
              have BR : Hid (badRun K = !(t % 9 != 0)) := by show _ = _; unfold badRun; rw [ER.out, ET.out, hne2, show (t % 9 != 0) = !(t % 9 == 0) from rfl]; simp [ha]
              clear hd S2
              go_wp2_with fail
              refine (PH.out _ HB2.out).mono ?_
              rintro e9 w9 ⟨rfl, hb9⟩
              have HB9 := Lib.hid (FR.out _ hb9)
              clear hb9
              go_wp2
              go_ret
              exact ⟨ST.out _ BR.out, HB9.out⟩

set_option maxHeartbeats 4000000 in
theorem implKernelFault_any (lo hi : Nat) (A1 : Option Addr) (n1 c1 : Nat) (A2 : Option Addr) (n2 c2 : Nat) (A3 : Option Addr) (n3 c3 : Nat) (t r : Int) (K : Ker) (w : World) (hn1 : n1 * 8 ≤ 140737488351232)
    (h : KRead w lo hi A1 n1 A2 n2 A3 n3 K) (et : K.tick = t) (er : K.run = r) :
    Calls Tryz.prog 28 #[.agg #[.slice A1 n1 c1, .slice A2 n2 c2, .slice A3 n3 c3, .int .i64 t, .int .i64 r]] w fun e w' => e = .returned (.int .i64 (kf K)) ∧ Below w.heap.size w w' := by
  obtain ⟨w1, hW1⟩ : ∃ w1, w1 = w.alloc (.cells #[.slice A1 n1 c1, .slice A2 n2 c2, .slice A3 n3 c3, .int .i64 t, .int .i64 r] 39) := ⟨_, rfl⟩
  have hbox : w1.heap[w.heap.size]? = some (.cells #[.slice A1 n1 c1, .slice A2 n2 c2, .slice A3 n3 c3, .int .i64 t, .int .i64 r] 39 (0, 0)) := by rw [hW1]; exact heap_alloc_new w _
  have B1 : Hid (Below w.heap.size w w1) := by rw [hW1]; exact below_new w _
  have hg : w.heap.size < w1.heap.size := (Array.getElem?_eq_some_iff.1 hbox).1
  have H := Lib.hid ((h.lt.below B1.out (Nat.min_le_right _ _)).lt)
  obtain ⟨l1, l2, l3⟩ := h.1
  have ET := Lib.hid et; have ER := Lib.hid er
  have QS : Hid (∀ W, Below w1.heap.size w1 W → W.cell? ⟨w.heap.size, 0, none⟩ = some (.slice A1 n1 c1) ∧ W.cell? ⟨w.heap.size, 1, none⟩ = some (.slice A2 n2 c2) ∧ W.cell? ⟨w.heap.size, 2, none⟩ = some (.slice A3 n3 c3) ∧ W.cell? ⟨w.heap.size, 3, none⟩ = some (.int .i64 t) ∧ W.cell? ⟨w.heap.size, 4, none⟩ = some (.int .i64 r)) := fun W hB => by
    have k := (hB.block _ hg).trans hbox
    exact ⟨cell_of_row W _ 0 _ _ _ k, cell_of_row W _ 1 _ _ _ k, cell_of_row W _ 2 _ _ _ k, cell_of_row W _ 3 _ _ _ k, cell_of_row W _ 4 _ _ _ k⟩
  have HG := Lib.hid hg
  clear h et er hbox hg
  have R0 : Hid (Below w1.heap.size w1 w1) := Below.refl _ _
  have VF : Hid (∀ W, Below w1.heap.size w1 W → Calls Tryz.prog 79 #[.slice A1 n1 c1] W fun e w' => e = .returned (.int .i64 (vf K.os)) ∧ Below w1.heap.size w1 w') := fun W hW =>
    (implVectorFault_any _ _ A1 n1 c1 K.os W hn1 l1 (H.out.below hW (Nat.min_le_right _ _)).2.1).mono fun e w' hh => ⟨hh.1, hW.trans (hh.2.mono hW.size)⟩
  have FIN : Hid (∀ W, Below w1.heap.size w1 W → Below w.heap.size w W) := fun W hW => B1.out.trans (hW.mono (by have := HG.out; omega))
  obtain ⟨q0, q1, q2, q3, q4⟩ := QS.out w1 R0.out
  go_enter Tryz.func28, Tryz.ntmps28
  go_upto_region 1 with (fail)
  rw [← hW1]
  clear hW1
  go_wp2_with fail
  refine (VF.out _ R0.out).mono ?_
  rintro e w2 ⟨rfl, hb2⟩
  have R2 := Lib.hid hb2
  obtain ⟨q0, q1, q2, q3, q4⟩ := QS.out _ hb2
  clear hb2 VF
  by_cases hv : vf K.os = 0
  case neg =>
    have hv' : (vf K.os != 0) = true := by simp [hv]
    have HK : Hid (vf K.os = kf K) := by show _ = _; unfold kf; rw [if_pos hv]
    clear hv
    go_wp2
    go_ret
    exact ⟨ret_i64 HK.out, FIN.out _ R2.out⟩
  obtain ⟨v1, v2, v3, v4⟩ := vf_zero hv
  have HV := Lib.hid hv
  have V3 := Lib.hid v3
  rw [hv]
  clear hv v3 v4
  have LEN : ¬ (n2 = 4 ∧ n3 = 4) → Hid (2 = kf K) := fun hh => by
    show _ = _
    unfold kf
    rw [if_neg (by simp [HV.out]), if_pos (by omega)]
  by_cases h2 : n2 = 4
  case neg =>
    have HK := LEN (by omega)
    have h2a : ((n2 : Int) == 4) = false := by simp; omega
    have h2b : ((n2 : Int) != 4) = true := by simp; omega
    go_wp2
    go_ret
    exact ⟨ret_i64 HK.out, FIN.out _ R2.out⟩
  by_cases h3 : n3 = 4
  case neg =>
    have HK := LEN (by omega)
    subst h2
    have h3a : ((n3 : Int) == 4) = false := by simp; omega
    have h3b : ((n3 : Int) != 4) = true := by simp; omega
    go_wp2
    go_ret
    exact ⟨ret_i64 HK.out, FIN.out _ R2.out⟩
  subst h2 h3
  clear LEN
  have THREE : ¬ (∀ e, e < 4 → afk K e = 0) → Hid (3 = kf K) := fun hh => by
    show _ = _
    unfold kf
    rw [if_neg (by simp [HV.out]), if_neg (by omega), if_pos hh]
  go_wp2
  clear q0 q1 q2 q3 q4
  go_loopw [26] (fun i wr => ∃ k : Nat, k ≤ 4 ∧ i = .int .i64 k ∧ Below w1.heap.size w1 wr ∧ ∀ e, e < k → afk K e = 0) (fun i _ => 4 - (intOf i).toNat)
  case atStart => exact ⟨0, Nat.zero_le _, rfl, R2.out, fun e he => absurd he (Nat.not_lt_zero _)⟩
  case round =>
    obtain ⟨k, hk, rfl, hb, hs⟩ := hrel
    obtain ⟨q0, q1, q2, q3, q4⟩ := QS.out _ hb
    have HB := Lib.hid hb; have HS := Lib.hid hs
    by_cases hlt : k < 4
    · obtain ⟨x3, y3, rfl, z3, z4, hd3⟩ := (H.out.below hb (Nat.min_le_right _ _)).2.2.2.at_ (show k * 4 < 4 * 4 by omega)
      have d0 : _ = some (Value.int .i64 (gi K.ac (k * 4))) := hd3 (k * 4) (by omega)
      have d1 : wr.cell? ⟨x3, y3 + k * 4 + 1, none⟩ = some (Value.int .i64 (gi K.ac (k * 4 + 1))) := hd3 (k * 4 + 1) (by omega)
      have d2 : wr.cell? ⟨x3, y3 + k * 4 + 2, none⟩ = some (Value.int .i64 (gi K.ac (k * 4 + 2))) := hd3 (k * 4 + 2) (by omega)
      have d3 : wr.cell? ⟨x3, y3 + k * 4 + 3, none⟩ = some (Value.int .i64 (gi K.ac (k * 4 + 3))) := hd3 (k * 4 + 3) (by omega)
      have HBA : Hid (∀ o, Below w1.heap.size w1 (wr.alloc o)) := fun o => hb.alloc hb.size o
      have AC := Lib.hid (implAccountFault_any (gi K.ac (k * 4)) (gi K.ac (k * 4 + 1)) (gi K.ac (k * 4 + 2)) (gi K.ac (k * 4 + 3)))
      clear hb hs hd3
      go_wp2_with fail
      refine (AC.out _).mono ?_
      rintro e w3 ⟨rfl, hb3⟩
      have HB3 := Lib.hid ((HBA.out _).trans (hb3.mono (HBA.out _).size))
      clear hb3 d0 d1 d2 d3 AC
      cases hz : (af (gi K.ac (k * 4)) (gi K.ac (k * 4 + 1)) (gi K.ac (k * 4 + 2)) (gi K.ac (k * 4 + 3)) != 0)
      · have hz0 : af (gi K.ac (k * 4)) (gi K.ac (k * 4 + 1)) (gi K.ac (k * 4 + 2)) (gi K.ac (k * 4 + 3)) = 0 := by simpa using hz
        have GO : Hid (∀ e, e < k + 1 → afk K e = 0) := fun e he => by
          rcases Nat.lt_succ_iff_lt_or_eq.1 he with h | rfl
          · exact HS.out e h
          · exact hz0
        clear hz0
        go_wp2
        go_roundw
        case rel => exact ⟨k + 1, by omega, by go_num, HB3.out, GO.out⟩
        case measure => simp [intOf]; omega
      · have HK : Hid (af (gi K.ac (k * 4)) (gi K.ac (k * 4 + 1)) (gi K.ac (k * 4 + 2)) (gi K.ac (k * 4 + 3)) = kf K) := by
          have hn : af (gi K.ac (k * 4)) (gi K.ac (k * 4 + 1)) (gi K.ac (k * 4 + 2)) (gi K.ac (k * 4 + 3)) ≠ 0 := by simpa using hz
          have := THREE (fun hh => hn (hh k hlt))
          show _ = _
          rw [← this.out]
          exact (af_two _ _ _ _).resolve_left hn
        go_wp2
        go_ret
        exact ⟨ret_i64 HK.out, FIN.out _ HB3.out⟩
    · have ALL : Hid (∀ e, e < 4 → afk K e = 0) := fun e he => hs e (by omega)
      have BAD : (¬ (0 ≤ t ∧ t ≤ 100000) ∨ oneNo r = false) → Hid (3 = kf K) := fun hh => by
        show _ = _
        unfold kf
        rw [if_neg (by simp [HV.out]), if_neg (by omega), if_neg (fun h => h ALL.out), if_pos]
        rw [ET.out, ER.out]
        rcases hh with hh | hh
        · exact .inl hh
        · right
          unfold oneNo at hh
          simp at hh
          exact hh
      have ON := Lib.hid (isOneOrNobody_any r)
      clear hs hb THREE
      by_cases ht1 : t < 0
      · have HK := BAD (.inl (by omega))
        go_wp2
        go_ret
        exact ⟨ret_i64 HK.out, FIN.out _ HB.out⟩
      by_cases ht2 : 100000 < t
      · have HK := BAD (.inl (by omega))
        go_wp2
        go_ret
        exact ⟨ret_i64 HK.out, FIN.out _ HB.out⟩
      cases hr : oneNo r
      · have HK := BAD (.inr hr)
        rw [hr] at ON
        clear hr BAD
        go_wp2_with fail
        refine (ON.out _).mono ?_
        rintro e9 w9 ⟨rfl, rfl⟩
        go_wp2
        go_ret
        exact ⟨ret_i64 HK.out, FIN.out _ HB.out⟩
      · have hr2 : r = -1 ∨ inEnv r = true := by unfold oneNo at hr; simp at hr; exact hr
        have HK : Hid (kf K = st K) := by
          show _ = _
          unfold kf
          rw [if_neg (by simp [HV.out]), if_neg (by omega), if_neg (fun h => h ALL.out), if_neg]
          rw [ET.out, ER.out]
          rintro (h | ⟨h1, h2⟩)
          · omega
          · rcases hr2 with h | h
            · exact h1 h
            · rw [h] at h2; cases h2
        have FT : Hid (Calls Tryz.prog 82 #[.agg #[.slice A1 n1 c1, .slice A2 4 c2, .slice A3 4 c3, .int .i64 t, .int .i64 r]] wr fun e w' => e = .returned (.bool (decide (st K = 0))) ∧ Below w1.heap.size w1 w') :=
          (fitsTogether_any _ _ A1 n1 c1 A2 c2 A3 c3 t r K wr (H.out.below HB.out (Nat.min_le_right _ _)) (by omega) (fun k hk => V3.out k (by omega)) hr2 (by omega) ET.out ER.out).mono fun e w' hh => ⟨hh.1, HB.out.trans (hh.2.mono HB.out.size)⟩
        rw [hr] at ON
        clear hr hr2 BAD
        go_wp2_with fail
        refine (ON.out _).mono ?_
        rintro e9 w9 ⟨rfl, rfl⟩
        go_wp2_with fail
        refine FT.out.mono ?_
        rintro e9 w9 ⟨rfl, hb9⟩
        have HB9 := Lib.hid (FIN.out _ hb9)
        clear hb9
        rcases st_two K with hst | hst
        · rw [hst] at HK ⊢
          rw [decide_eq_true rfl]
          go_wp2
          go_ret
          exact ⟨ret_i64 HK.out.symm, HB9.out⟩
        · rw [hst] at HK ⊢
          rw [decide_eq_false (by decide)]
          go_wp2
          go_ret
          exact ⟨ret_i64 HK.out.symm, HB9.out⟩

end Go.Proofs.YtckapndpefkcgaaGreat
