/-
  The model's KernelFault, for every kernel that can be read. No conditions beyond that its lists can be read.
-/
import Derived.Test.YtckapndpefkcgaaGreatSpec3b
set_option maxHeartbeats 1000000
namespace Go.Proofs.YtckapndpefkcgaaGreat
open Go.RowKit

set_option maxHeartbeats 2000000 in
theorem specKernelFault_any (lo hi : Nat) (A1 : Option Addr) (n1 c1 : Nat) (A2 : Option Addr) (n2 c2 : Nat) (A3 : Option Addr) (n3 c3 : Nat) (t r : Int) (K : Ker) (w : World) (hn1 : n1 * 8 ≤ 140737488351232) (hn3 : n3 * 32 ≤ 140737488351232)
    (h : KRead w lo hi A1 n1 A2 n2 A3 n3 K) (et : K.tick = t) (er : K.run = r) :
    Calls Tryz.prog 44 #[.agg #[.slice A1 n1 c1, .slice A2 n2 c2, .slice A3 n3 c3, .int .i64 t, .int .i64 r]] w fun e w' => e = .returned (.int .i64 (kf K)) ∧ Below w.heap.size w w' := by
  have B1 := Lib.hid (below_new w (.cells #[.slice A1 n1 c1, .slice A2 n2 c2, .slice A3 n3 c3, .int .i64 t, .int .i64 r] 39))
  have H := Lib.hid (h.lt.below (B1.out) (Nat.min_le_right _ _))
  obtain ⟨l1, l2, l3⟩ := h.1
  have ET := Lib.hid et; have ER := Lib.hid er
  clear h et er
  have KB := Lib.hid (heap_alloc_new w (.cells #[.slice A1 n1 c1, .slice A2 n2 c2, .slice A3 n3 c3, .int .i64 t, .int .i64 r] 39))
  have QS : Hid (∀ W, Below (w.heap.size + 1) (w.alloc (.cells #[.slice A1 n1 c1, .slice A2 n2 c2, .slice A3 n3 c3, .int .i64 t, .int .i64 r] 39)) W → W.cell? ⟨w.heap.size, 0, none⟩ = some (.slice A1 n1 c1) ∧ W.cell? ⟨w.heap.size, 1, none⟩ = some (.slice A2 n2 c2) ∧ W.cell? ⟨w.heap.size, 2, none⟩ = some (.slice A3 n3 c3) ∧ W.cell? ⟨w.heap.size, 3, none⟩ = some (.int .i64 t) ∧ W.cell? ⟨w.heap.size, 4, none⟩ = some (.int .i64 r)) := fun W hB => by
    have k := (hB.block w.heap.size (by omega)).trans KB.out
    exact ⟨cell_of_row W _ 0 _ _ _ k, cell_of_row W _ 1 _ _ _ k, cell_of_row W _ 2 _ _ _ k, cell_of_row W _ 3 _ _ _ k, cell_of_row W _ 4 _ _ _ k⟩
  have VF : Hid (∀ W, Below (w.heap.size + 1) (w.alloc (.cells #[.slice A1 n1 c1, .slice A2 n2 c2, .slice A3 n3 c3, .int .i64 t, .int .i64 r] 39)) W → Calls Tryz.prog 98 #[.slice A1 n1 c1] W fun e w' => e = .returned (.int .i64 (vf K.os)) ∧ W = w') := fun W hW =>
    specVectorFault_any lo (min hi w.heap.size) A1 n1 c1 K.os W hn1 l1 ((H.out.below hW (by omega)).2.1)
  have R0 : Hid (Below (w.heap.size + 1) (w.alloc (.cells #[.slice A1 n1 c1, .slice A2 n2 c2, .slice A3 n3 c3, .int .i64 t, .int .i64 r] 39)) (w.alloc (.cells #[.slice A1 n1 c1, .slice A2 n2 c2, .slice A3 n3 c3, .int .i64 t, .int .i64 r] 39))) := Below.refl _ _
  have FIN : Hid (∀ W, Below (w.heap.size + 1) (w.alloc (.cells #[.slice A1 n1 c1, .slice A2 n2 c2, .slice A3 n3 c3, .int .i64 t, .int .i64 r] 39)) W → Below w.heap.size w W) := fun W hW => B1.out.trans (hW.mono (by omega))
  by_cases hv : vf K.os = 0
  case neg =>
    have hv' : (vf K.os != 0) = true := by simp [hv]
    have HK : Hid (vf K.os = kf K) := by show _ = _; unfold kf; rw [if_pos hv]
    clear hv
    go_enter Tryz.func44, Tryz.ntmps44
    go_wp2_with fail
    refine (VF.out _ R0.out).mono ?_
    rintro e w1 ⟨rfl, rfl⟩
    go_wp2
    go_ret
    exact ⟨ret_i64 HK.out, B1.out⟩
  have hv' : (vf K.os != 0) = false := by simp [hv]
  obtain ⟨v1, v2, v3, v4⟩ := vf_zero hv
  have HV := Lib.hid hv
  have V3 := Lib.hid v3
  clear hv v3 v4
  have VF0 : Hid (∀ W, Below (w.heap.size + 1) (w.alloc (.cells #[.slice A1 n1 c1, .slice A2 n2 c2, .slice A3 n3 c3, .int .i64 t, .int .i64 r] 39)) W → Calls Tryz.prog 98 #[.slice A1 n1 c1] W fun e w' => e = .returned (.int .i64 0) ∧ W = w') := fun W hW => by
    have := VF.out W hW
    rwa [HV.out] at this
  clear VF hv'
  have LEN : ¬ (n2 = 4 ∧ n3 = 4) → Hid (2 = kf K) := fun hh => by
    show _ = _
    unfold kf
    rw [if_neg (by simp [HV.out]), if_pos (by omega)]
  by_cases h2 : n2 = 4
  case neg =>
    have HK := LEN (by omega)
    have h2a : ((n2 : Int) == 4) = false := by simp; omega
    have h2b : ((n2 : Int) != 4) = true := by simp; omega
    go_enter Tryz.func44, Tryz.ntmps44
    go_wp2_with fail
    refine (VF0.out _ R0.out).mono ?_
    rintro e w1 ⟨rfl, rfl⟩
    go_wp2
    go_ret
    exact ⟨ret_i64 HK.out, B1.out⟩
  by_cases h3 : n3 = 4
  case neg =>
    have HK := LEN (by omega)
    subst h2
    have h3a : ((n3 : Int) == 4) = false := by simp; omega
    have h3b : ((n3 : Int) != 4) = true := by simp; omega
    go_enter Tryz.func44, Tryz.ntmps44
    go_wp2_with fail
    refine (VF0.out _ R0.out).mono ?_
    rintro e w1 ⟨rfl, rfl⟩
    go_wp2
    go_ret
    exact ⟨ret_i64 HK.out, B1.out⟩
  subst h2 h3
  clear LEN
  have THREE : ¬ (∀ e, e < 4 → afk K e = 0) → Hid (3 = kf K) := fun hh => by
    show _ = _
    unfold kf
    rw [if_neg (by simp [HV.out]), if_neg (by omega), if_pos hh]
  go_enter Tryz.func44, Tryz.ntmps44
  go_wp2_with fail
  refine (VF0.out _ R0.out).mono ?_
  rintro e w1 ⟨rfl, rfl⟩
  go_wp2
  go_loopw [4] (fun i wr => ∃ k : Nat, k ≤ 4 ∧ i = .int .i64 k ∧ Below (w.heap.size + 1) (w.alloc (.cells #[.slice A1 n1 c1, .slice A2 4 c2, .slice A3 4 c3, .int .i64 t, .int .i64 r] 39)) wr ∧ ∀ e, e < k → afk K e = 0) (fun i _ => 4 - (intOf i).toNat)
  case atStart => exact ⟨0, Nat.zero_le _, rfl, R0.out, fun e he => absurd he (Nat.not_lt_zero _)⟩
  case round =>
    obtain ⟨k, hk, rfl, hb, hs⟩ := hrel
    obtain ⟨q0, q1, q2, q3, q4⟩ := QS.out _ hb
    have HB := Lib.hid hb; have HS := Lib.hid hs
    by_cases hlt : k < 4
    · obtain ⟨x3, y3, rfl, z3, z4, hd3⟩ := (H.out.below hb (by omega)).2.2.2.at_ (show k * 4 < 4 * 4 by omega)
      have d0 : _ = some (Value.int .i64 (gi K.ac (k * 4))) := hd3 (k * 4) (by omega)
      have d1 : wr.cell? ⟨x3, y3 + k * 4 + 1, none⟩ = some (Value.int .i64 (gi K.ac (k * 4 + 1))) := hd3 (k * 4 + 1) (by omega)
      have d2 : wr.cell? ⟨x3, y3 + k * 4 + 2, none⟩ = some (Value.int .i64 (gi K.ac (k * 4 + 2))) := hd3 (k * 4 + 2) (by omega)
      have d3 : wr.cell? ⟨x3, y3 + k * 4 + 3, none⟩ = some (Value.int .i64 (gi K.ac (k * 4 + 3))) := hd3 (k * 4 + 3) (by omega)
      have AC := Lib.hid (specAccountFault_any (gi K.ac (k * 4)) (gi K.ac (k * 4 + 1)) (gi K.ac (k * 4 + 2)) (gi K.ac (k * 4 + 3)) wr)
      have sz := hb.size
      simp only [World.size_alloc] at sz
      clear hb hs hd3
      cases hz : (af (gi K.ac (k * 4)) (gi K.ac (k * 4 + 1)) (gi K.ac (k * 4 + 2)) (gi K.ac (k * 4 + 3)) != 0)
      · have hz0 : af (gi K.ac (k * 4)) (gi K.ac (k * 4 + 1)) (gi K.ac (k * 4 + 2)) (gi K.ac (k * 4 + 3)) = 0 := by simpa using hz
        have GO : Hid (∀ e, e < k + 1 → afk K e = 0) := fun e he => by
          rcases Nat.lt_succ_iff_lt_or_eq.1 he with h | rfl
          · exact HS.out e h
          · exact hz0
        clear hz0
        go_wp2_with fail
        refine AC.out.mono ?_
        rintro e w1 ⟨rfl, hb1⟩
        have HB1 := Lib.hid (HB.out.trans (hb1.mono sz))
        clear hb1 d0 d1 d2 d3
        go_wp2
        go_roundw
        case rel => exact ⟨k + 1, by omega, by go_num, HB1.out, GO.out⟩
        case measure => simp [intOf]; omega
      · have HK : Hid (af (gi K.ac (k * 4)) (gi K.ac (k * 4 + 1)) (gi K.ac (k * 4 + 2)) (gi K.ac (k * 4 + 3)) = kf K) := by
          have hn : af (gi K.ac (k * 4)) (gi K.ac (k * 4 + 1)) (gi K.ac (k * 4 + 2)) (gi K.ac (k * 4 + 3)) ≠ 0 := by simpa using hz
          have := THREE (fun hh => hn (hh k hlt))
          show _ = _
          rw [← this.out]
          exact (af_two _ _ _ _).resolve_left hn
        go_wp2_with fail
        refine AC.out.mono ?_
        rintro e w1 ⟨rfl, hb1⟩
        have HB1 := Lib.hid (FIN.out _ (HB.out.trans (hb1.mono sz)))
        clear hb1 d0 d1 d2 d3
        go_wp2
        go_ret
        exact ⟨ret_i64 HK.out, HB1.out⟩
    · have ALL : Hid (∀ e, e < 4 → afk K e = 0) := fun e he => hs e (by omega)
      have sz := hb.size
      simp only [World.size_alloc] at sz
      have BAD : (¬ (0 ≤ K.tick ∧ K.tick ≤ 100000) ∨ (K.run ≠ -1 ∧ inEnv K.run = false)) → Hid (3 = kf K) := fun hh => by
        show _ = _
        unfold kf
        rw [if_neg (by simp [HV.out]), if_neg (by omega), if_neg (fun h => h ALL.out), if_pos hh]
      clear hs hb THREE
      cases ht : inR 0 100000 t
      · have HK := BAD (.inl (by rw [ET.out]; exact of_decide_eq_false ht))
        go_wp2_with (first | (go_at_call 94; refine (l1In_any _ _ _ _).mono ?_; rintro e9 w9 ⟨rfl, rfl⟩))
        go_ret
        exact ⟨ret_i64 HK.out, FIN.out _ HB.out⟩
      have ht2 : 0 ≤ t ∧ t ≤ 100000 := of_decide_eq_true ht
      have STATE : (r = -1 ∨ inEnv r = true) → Hid (kf K = st K ∧ ∀ W, Below (w.heap.size + 1) (w.alloc (.cells #[.slice A1 n1 c1, .slice A2 4 c2, .slice A3 4 c3, .int .i64 t, .int .i64 r] 39)) W → Calls Tryz.prog 100 #[.pointer (some ⟨w.heap.size, 0, none⟩)] W fun e w' => e = .returned (.int .i64 (st K)) ∧ Below W.heap.size W w') := fun hr => by
        refine ⟨?_, fun W hW => ?_⟩
        · unfold kf
          rw [if_neg (by simp [HV.out]), if_neg (by omega), if_neg (fun h => h ALL.out), if_neg]
          rw [ET.out, ER.out]
          rintro (h | ⟨h1, h2⟩)
          · exact h ht2
          · rcases hr with h | h
            · exact h1 h
            · rw [h] at h2; cases h2
        · exact l3State_any w.heap.size lo (min hi w.heap.size) A1 n1 c1 A2 c2 A3 c3 t r K W ((hW.block w.heap.size (by omega)).trans KB.out) (H.out.below hW (by omega)) (by omega) (fun k hk => V3.out k (by omega)) hr ht2 ET.out ER.out
      by_cases hm : r = -1
      · subst hm
        obtain ⟨hk1, hk2⟩ := (STATE (.inl rfl)).out
        have ST := Lib.hid hk2; have HK := Lib.hid hk1
        clear hk1 hk2 STATE BAD
        go_wp2_with (first | (go_at_call 94; refine (l1In_any _ _ _ _).mono ?_; rintro e9 w9 ⟨rfl, rfl⟩) | (go_at_call 93; refine (l1Env_any _ _).mono ?_; rintro e9 w9 ⟨rfl, rfl⟩) | (go_at_call 100; refine (ST.out _ HB.out).mono ?_; rintro e9 w9 ⟨rfl, hb9⟩; have HB9 := Lib.hid (FIN.out _ (HB.out.trans (hb9.mono sz))); clear hb9))
        go_ret
        exact ⟨ret_i64 HK.out.symm, HB9.out⟩
      · have hm1 : (r == -1) = false := by simp [hm]
        have hm2 : (r != -1) = true := by simp [hm]
        cases hr : inEnv r
        · have HK := BAD (.inr (by rw [ER.out]; exact ⟨hm, hr⟩))
          clear hm STATE BAD
          go_wp2_with (first | (go_at_call 94; refine (l1In_any _ _ _ _).mono ?_; rintro e9 w9 ⟨rfl, rfl⟩) | (go_at_call 93; refine (l1Env_any _ _).mono ?_; rintro e9 w9 ⟨rfl, rfl⟩))
          go_ret
          exact ⟨ret_i64 HK.out, FIN.out _ HB.out⟩
        · obtain ⟨hk1, hk2⟩ := (STATE (.inr hr)).out
          have ST := Lib.hid hk2; have HK := Lib.hid hk1
          clear hk1 hk2 STATE BAD hm
          go_wp2_with (first | (go_at_call 94; refine (l1In_any _ _ _ _).mono ?_; rintro e9 w9 ⟨rfl, rfl⟩) | (go_at_call 93; refine (l1Env_any _ _).mono ?_; rintro e9 w9 ⟨rfl, rfl⟩) | (go_at_call 100; refine (ST.out _ HB.out).mono ?_; rintro e9 w9 ⟨rfl, hb9⟩; have HB9 := Lib.hid (FIN.out _ (HB.out.trans (hb9.mono sz))); clear hb9))
          go_ret
          exact ⟨ret_i64 HK.out.symm, HB9.out⟩

end Go.Proofs.YtckapndpefkcgaaGreat
