/-
  IsFair, the model's. No conditions beyond that the schedule can be read.
-/
import Derived.Test.YtkhphkfbjbhgaaaFair9a
namespace Go.Proofs.Ytkhphkfbjbhgaaa
open Go.RowKit
set_option maxRecDepth 100000

/-- what is known where PicksOf has no code -/
structure FF9 (b : Int) (xs : List R3) (t : Int) (n : Nat) (ids hs : List Int) : Prop where
  n5 : n ≤ 5
  tk : ∀ i, i < n → 1 ≤ gi hs (i * 3 + 1) ∧ gi hs (i * 3 + 1) ≤ 10
  t0 : 0 ≤ t ∧ t ≤ 200
  il : ids.length ≤ 200
  eq : fair9 b xs t = !(anyf (farAt ids hs t (tka hs n) n) n)
theorem ff9_of {b : Int} {xs : List R3} {t : Int} (h : (picks5 b xs t).1 = 0) : FF9 b xs t xs.length (picks5 b xs t).2.1 (fl xs) := by
  obtain ⟨h1, h2⟩ := picks5_ok h
  obtain ⟨_, hb, _, _⟩ := sf5_zero h1
  have h5 : ¬ 5 < xs.length := fun hh => by
    unfold sf5 at h1
    split at h1
    · omega
    · first | omega | (rw [if_pos hh] at h1; omega)
  refine ⟨by omega, fun i hi => ?_, h2, (picks5_len b xs t).1, by unfold fair9; rw [if_neg (by simp [h])]⟩
  have hm : g3 xs i ∈ xs := by unfold g3; rw [List.getD_eq_getElem?_getD, List.getElem?_eq_getElem hi]; exact List.getElem_mem hi
  have := (okR_parts (okR_mem hb hm)).2.1
  rw [(fl_get xs i hi).2.1]
  unfold okT at this
  simpa using this
/-- the products, in their bounds -/
theorem ff9_num {b : Int} {xs : List R3} {t : Int} {n : Nat} {ids hs : List Int} (h : FF9 b xs t n ids hs) (tm : Nat) (hm : tm ≤ ids.length) (tk : Int) (hk : 1 ≤ tk ∧ tk ≤ 10) (all : Int) (ha : 0 ≤ all ∧ all ≤ 50) :
    (0 ≤ (tm : Int) * all ∧ (tm : Int) * all ≤ 10000) ∧ (0 ≤ t * tk ∧ t * tk ≤ 2000) ∧ (0 ≤ max ((n : Int) - 2) 0 ∧ max ((n : Int) - 2) 0 ≤ 3) ∧ (0 ≤ max ((n : Int) - 2) 0 * tk ∧ max ((n : Int) - 2) 0 * tk ≤ 30) := by
  have h1 := h.n5; have h2 := h.il
  have h3 : 0 ≤ max ((n : Int) - 2) 0 ∧ max ((n : Int) - 2) 0 ≤ 3 := by omega
  exact ⟨mul_box (A := 200) (B := 50) (by omega) ha, mul_box (A := 200) (B := 10) h.t0 (by omega), h3, mul_box (A := 3) (B := 10) h3 (by omega)⟩

set_option maxHeartbeats 16000000 in
theorem specIsFair_any (lo hi : Nat) (ad : Addr) (c : Nat) (b : Int) (xs : List R3) (t : Int) (w : World) (hx : xs.length ≤ 1048576) (h : RS w lo hi (some ad) xs) :
    Calls Try.prog 11 #[.agg #[.int .i64 b, .slice (some ad) xs.length c], .int .i64 t] w fun e w' => e = .returned (.bool (fair9 b xs t)) ∧ Below w.heap.size w w' := by
  have HL := Lib.hid h.lt
  have hp := fun W (hW : Below w.heap.size w W) => specPicksOf_any lo (min hi w.heap.size) ad c b xs t W (by omega) (HL.out.below hW (Nat.min_le_right _ _))
  have HX := Lib.hid hx
  have FFX := Lib.hid (@ff9_of b xs t)
  have FN : Hid ((picks5 b xs t).1 ≠ 0 → fair9 b xs t = false) := fun hh => by unfold fair9; rw [if_pos hh]
  obtain ⟨r, hr⟩ : ∃ r, r = picks5 b xs t := ⟨_, rfl⟩
  rw [← hr] at FFX FN hp
  have HP := Lib.hid hp
  have H : Hid (∀ W, Below w.heap.size w W → Sl W lo (min hi w.heap.size) (some ad) (xs.length * 3) (fun k => .int .i64 (gi (fl xs) k))) := fun W hW => HL.out.below hW (Nat.min_le_right _ _)
  obtain ⟨hs, hhs⟩ : ∃ hs, hs = fl xs := ⟨_, rfl⟩
  rw [← hhs] at H FFX
  obtain ⟨n, hn⟩ : ∃ n, n = xs.length := ⟨_, rfl⟩
  rw [← hn] at H FFX HX HP ⊢
  obtain ⟨q, ids, b2, ys⟩ := r
  have FN : Hid (q ≠ 0 → fair9 b xs t = false) := FN.out
  have FFX : Hid (q = 0 → FF9 b xs t n ids hs) := FFX.out
  obtain ⟨w1, hw1⟩ : ∃ w1, w1 = w.alloc (.cells #[.int .i64 b, .slice (some ad) n c] 36) := ⟨_, rfl⟩
  have K1 : Hid (w1.heap[w.heap.size]? = some (.cells #[.int .i64 b, .slice (some ad) n c] 36 (0, 0))) := by show _ = _; rw [hw1]; exact heap_alloc_new w _
  have B1 : Hid (Below w.heap.size w w1) := by rw [hw1]; exact below_new w _
  have Z1 : Hid (w1.heap.size = w.heap.size + 1) := by show _ = _; rw [hw1]; simp
  have P1 := Lib.hid (HP.out w1 B1.out)
  have k0 := cell_of_row w1 _ 0 _ _ _ K1.out; have k1 := cell_of_row w1 _ 1 _ _ _ K1.out
  simp at k0 k1
  have HW1 := Lib.hid hw1
  clear h hx hr hhs hn hw1 hp HP HL
  go_enter Try.func11, Try.ntmps11
  go_upto_region 1 with (fail)
  rw [← HW1.out]
  clear HW1
  go_wp2_with fail
  refine P1.out.mono ?_
  rintro e w2 ⟨I, d, A2, c2, rfl, hoi, _, hb⟩
  dsimp only
  have hoi : OR 2 1 w2 w1.heap.size I ids.length d ids := hoi
  obtain ⟨m, hm⟩ : ∃ m, m = ids.length := ⟨_, rfl⟩
  rw [← hm] at hoi ⊢
  have HM := Lib.hid hm
  obtain ⟨n2, hn2⟩ : ∃ n2, n2 = ys.length := ⟨_, rfl⟩
  rw [← hn2]
  obtain ⟨w3, hw3⟩ : ∃ w3, w3 = w2.alloc (.cells #[.int .i64 q, .slice I m d, .int .i64 b2, .slice A2 n2 c2] 48) := ⟨_, rfl⟩
  obtain ⟨gp, hgp⟩ : ∃ gp, gp = w2.heap.size := ⟨_, rfl⟩
  have K3 : Hid (w3.heap[gp]? = some (.cells #[.int .i64 q, .slice I m d, .int .i64 b2, .slice A2 n2 c2] 48 (0, 0))) := by show _ = _; rw [hw3, hgp]; exact heap_alloc_new w2 _
  have BN3 : Below w2.heap.size w2 w3 := by rw [hw3]; exact below_new w2 _
  have B13 := Lib.hid (hb.trans (BN3.mono hb.size))
  have B3 := Lib.hid (B1.out.trans (B13.out.mono (by have := Z1.out; omega)))
  have SI : Hid (Sl w3 w1.heap.size w2.heap.size I m (fun k => .int .i64 (gi ids k))) := by
    have := OR.sl0 hoi
    rw [Nat.mul_one] at this
    exact this.below BN3 (Nat.le_refl _)
  have Z3 : Hid (w2.heap.size ≤ w3.heap.size) := BN3.size
  have K1' := Lib.hid ((B13.out.block w.heap.size (by have := Z1.out; omega)).trans K1.out)
  have HW3 := Lib.hid hw3; have HGP := Lib.hid hgp
  clear hm hn2 hw3 hgp BN3 hoi hb k0 k1 P1 K1
  go_upto_region 2 with (fail)
  rw [← HW3.out, ← HGP.out]
  clear HW3 HGP
  have k0 := cell_of_row w3 _ 0 _ _ _ K3.out
  simp at k0
  by_cases h0 : q = 0
  case neg =>
    have y : (q != 0) = true := by simp [h0]
    have E := Lib.hid (FN.out h0)
    clear h0
    go_wp2
    go_ret
    exact ⟨by rw [E.out]; first | done | rfl, B3.out⟩
  have FX := Lib.hid (FFX.out h0)
  subst h0
  clear FN FFX
  have hn5 : n ≤ 5 := FX.out.n5
  go_wp2_with fail
  go_loopw [6, 7] (fun v i wr => ∃ k : Nat, k ≤ n ∧ i = .int .i64 (k : Int) ∧ v = .int .i64 (tka hs k) ∧ Below w3.heap.size w3 wr) (fun _ i _ => n - (intOf i).toNat)
  case atStart => exact ⟨0, Nat.zero_le _, rfl, rfl, Below.refl _ _⟩
  case round =>
    clear k0
    obtain ⟨k, hk, rfl, rfl, hb⟩ := hrel
    have BL := Lib.hid hb
    have K1' := Lib.hid ((hb.block w.heap.size (Array.getElem?_eq_some_iff.1 K1'.out).1).trans K1'.out)
    have K3 := Lib.hid ((hb.block gp (Array.getElem?_eq_some_iff.1 K3.out).1).trans K3.out)
    have SI := Lib.hid (SI.out.below hb Z3.out)
    have B3 := Lib.hid (B3.out.trans (hb.mono B3.out.size))
    have Z3 : Hid (w2.heap.size ≤ wr.heap.size) := Nat.le_trans Z3.out hb.size
    clear hb
    have s1 := cell_of_row wr _ 1 _ _ _ K1'.out
    simp at s1
    by_cases hlt : k < n
    · obtain ⟨bb, off, ha, h1, h2, hc⟩ := (H.out wr B3.out).at_ (show k * 3 < n * 3 by omega)
      injection ha with ha
      subst ha
      have c1 : wr.cell? ⟨bb, off + k * 3 + 1, none⟩ = some (.int .i64 (gi hs (k * 3 + 1))) := hc (k * 3 + 1) (by omega)
      have NX := Lib.hid (show tka hs (k + 1) = tka hs k + gi hs (k * 3 + 1) from rfl)
      have NL := tka_le k fun i hi => FX.out.tk i (by omega)
      have NL2 := FX.out.tk k hlt
      have z0 : (0 : Int) ≤ (k : Int) := by omega
      have z1 : (k : Int) < (n : Int) := by omega
      have wr1 : IntKind.i64.wrap (tka hs k + gi hs (k * 3 + 1)) = tka hs k + gi hs (k * 3 + 1) := IntWalk.i64_in _ (by omega)
      clear hc
      go_wp2
      go_roundw
      case rel => exact ⟨k + 1, by omega, by go_num, by rw [NX.out], BL.out⟩
      case measure => simp [intOf]; omega
    · have hkn : k = n := by omega
      subst hkn
      have AL := tka_le k fun i hi => FX.out.tk i hi
      have AL : 0 ≤ tka hs k ∧ tka hs k ≤ 50 := by omega
      obtain ⟨all, hall⟩ : ∃ all, all = tka hs k := ⟨_, rfl⟩
      have EQ := Lib.hid FX.out.eq
      rw [← hall] at AL EQ ⊢
      have hm2 : IntKind.i64.wrap ((k : Int) - 2) = (k : Int) - 2 := IntWalk.i64_in _ (by omega)
      clear hall
      obtain ⟨wo, hwo⟩ : ∃ wo, wo = wr := ⟨_, rfl⟩
      subst hwo
      go_wp2_with fail
      go_loopw [9] (fun i wr => ∃ j : Nat, j ≤ k ∧ i = .int .i64 (j : Int) ∧ anyf (farAt ids hs t all k) j = false ∧ Below wo.heap.size wo wr) (fun i _ => k - (intOf i).toNat)
      case atStart => exact ⟨0, Nat.zero_le _, rfl, rfl, Below.refl _ _⟩
      case round =>
        clear s1
        obtain ⟨j, hj, rfl, hno, hb⟩ := hrel
        have BS := Lib.hid hb
        have NO := Lib.hid hno
        clear hno
        have s1 := cell_of_row wr _ 1 _ _ _ ((hb.block w.heap.size (Array.getElem?_eq_some_iff.1 K1'.out).1).trans K1'.out)
        simp at s1
        by_cases hlj : j < k
        · obtain ⟨bb, off, ha, h1, h2, hc⟩ := (H.out wr (B3.out.trans (hb.mono B3.out.size))).at_ (show j * 3 < k * 3 by omega)
          injection ha with ha
          subst ha
          have c0 : wr.cell? ⟨bb, off + j * 3, none⟩ = some (.int .i64 (gi hs (j * 3))) := hc (j * 3) (by omega)
          have c1 : wr.cell? ⟨bb, off + j * 3 + 1, none⟩ = some (.int .i64 (gi hs (j * 3 + 1))) := hc (j * 3 + 1) (by omega)
          have TK := FX.out.tk j hlj
          have AN : Hid (anyf (farAt ids hs t all k) (j + 1) = (anyf (farAt ids hs t all k) j || far9 (tmi ids (gi hs (j * 3)) ids.length) all t (gi hs (j * 3 + 1)) k)) := rfl
          have AT : Hid (far9 (tmi ids (gi hs (j * 3)) ids.length) all t (gi hs (j * 3 + 1)) k = true → anyf (farAt ids hs t all k) k = true) := fun hh => anyf_true (i := j) hh hlj
          have z0 : (0 : Int) ≤ (j : Int) := by omega
          have z1 : (j : Int) < (k : Int) := by omega
          have KH : Hid (∀ W, Below wr.heap.size wr W → (W.cell? ⟨gp, 1, none⟩ = some (.slice I m d) ∧ W.cell? ⟨w.heap.size, 1, none⟩ = some (.slice (some ⟨bb, off, none⟩) k c) ∧ W.cell? ⟨bb, off + j * 3, none⟩ = some (.int .i64 (gi hs (j * 3)))) ∧ Below wr.heap.size wr W) := fun W hW => by
            have bw := BS.out.trans (hW.mono BS.out.size)
            have j1 := (bw.block gp (Array.getElem?_eq_some_iff.1 K3.out).1).trans K3.out
            have j2 := (bw.block w.heap.size (Array.getElem?_eq_some_iff.1 K1'.out).1).trans K1'.out
            exact ⟨⟨cell_of_row W _ 1 _ _ _ j1, cell_of_row W _ 1 _ _ _ j2, (hW.cell (World.block_lt_of_cell? _ _ c0)).trans c0⟩, hW⟩
          have TM : Hid (∀ W, Below wr.heap.size wr W → Calls Try.prog 19 #[.slice I m d, .int .i64 (gi hs (j * 3))] W fun e w' => e = .returned (.int .i64 (tmi ids (gi hs (j * 3)) ids.length : Int)) ∧ Below wr.heap.size wr w') := fun W hW =>
            (l9Times_any _ _ I m d ids _ W (by have := HM.out; have := FX.out.il; omega) HM.out.symm ((SI.out.below (BS.out.trans (hW.mono BS.out.size)) Z3.out))).mono fun e w' hh => ⟨hh.1, hW.trans (hh.2.mono hW.size)⟩
          have TL := tmi_le ids (gi hs (j * 3)) ids.length
          generalize tmi ids (gi hs (j * 3)) ids.length = tm at *
          generalize gi hs (j * 3 + 1) = tk at *
          generalize gi hs (j * 3) = id at *
          obtain ⟨⟨p1, p1'⟩, ⟨p2, p2'⟩, ⟨p3, p3'⟩, ⟨p4, p4'⟩⟩ := ff9_num FX.out tm TL tk TK all AL
          have FD : Hid (far9 tm all t tk k = decide ((tm : Int) * all - t * tk > all + max ((k : Int) - 2) 0 * tk ∨ (tm : Int) * all - t * tk < -(all + max ((k : Int) - 2) 0 * tk))) := rfl
          obtain ⟨m1, hm1⟩ : ∃ m1, m1 = (tm : Int) * all := ⟨_, rfl⟩
          obtain ⟨m2, hm2'⟩ : ∃ m2, m2 = t * tk := ⟨_, rfl⟩
          have wm1 : IntKind.i64.wrap ((tm : Int) * all) = m1 := by rw [← hm1] at p1 p1'; rw [← hm1]; exact IntWalk.i64_in _ (by omega)
          have wm2 : IntKind.i64.wrap (t * tk) = m2 := by rw [← hm2'] at p2 p2'; rw [← hm2']; exact IntWalk.i64_in _ (by omega)
          rw [← hm1] at p1 p1' FD
          rw [← hm2'] at p2 p2' FD
          have wd : IntKind.i64.wrap (m1 - m2) = m1 - m2 := IntWalk.i64_in _ (by omega)
          obtain ⟨mx, hmx⟩ : ∃ mx, mx = max ((k : Int) - 2) 0 := ⟨_, rfl⟩
          have MX := Lib.hid (l1Max_any ((k : Int) - 2) 0)
          rw [← hmx] at p3 p3' p4 p4' FD MX
          obtain ⟨m4, hm4⟩ : ∃ m4, m4 = mx * tk := ⟨_, rfl⟩
          have wm4 : IntKind.i64.wrap (mx * tk) = m4 := by rw [← hm4] at p4 p4'; rw [← hm4]; exact IntWalk.i64_in _ (by omega)
          rw [← hm4] at p4 p4' FD
          have wm5 : IntKind.i64.wrap (all + m4) = all + m4 := IntWalk.i64_in _ (by omega)
          have wm6 : IntKind.i64.wrap (-(all + m4)) = -(all + m4) := IntWalk.i64_in _ (by omega)
          have CP : Hid (p1 = p1) := rfl
          clear hc hb hm1 hm2' hmx hm4 CP
          go_upto_region 14 with (fail)
          clear s1 c1
          refine wp_region_held_drew (S := fun W => (W.cell? ⟨gp, 1, none⟩ = some (.slice I m d) ∧ W.cell? ⟨w.heap.size, 1, none⟩ = some (.slice (some ⟨bb, off, none⟩) k c) ∧ W.cell? ⟨bb, off + j * 3, none⟩ = some (.int .i64 id)) ∧ Below wr.heap.size wr W) (by kernel_rfl) (KH.out _ (Below.drew (Below.refl _ _))) (fun hHeld => ?_)
          obtain ⟨v0, hv0⟩ : ∃ v0, v0 = wr.drew := ⟨_, rfl⟩
          have BL0 : Hid (Below wr.heap.size wr v0) := by rw [hv0]; exact Below.drew (Below.refl _ _)
          rw [← hv0] at hHeld ⊢
          clear hv0
          refine wpAnyH_take (i := 0) (oi := _) (v := ?_) rfl (by kernel_rfl) (by kernel_rfl) (by kernel_rfl) (fun _ _ _ h => h) (Or.inl ⟨by rfl, ?_⟩) hHeld ?_
          rotate_left
          · (intro w hSw; (try dsimp only at hSw); go_simp; try with_reducible rfl)
          try simp only [Act.put, List.getElem_toArray, List.getElem_cons_succ, List.getElem_cons_zero, List.setIfInBounds_toArray, List.set_cons_zero, List.set_cons_succ]
          refine wpAnyH_take (i := 1) (oi := _) (v := ?_) rfl (by kernel_rfl) (by kernel_rfl) (by kernel_rfl) (fun _ _ _ h => h) (Or.inl ⟨by rfl, ?_⟩) hHeld ?_
          rotate_left
          · (intro w hSw; (try dsimp only at hSw); go_simp; try with_reducible rfl)
          try simp only [Act.put, List.getElem_toArray, List.getElem_cons_succ, List.getElem_cons_zero, List.setIfInBounds_toArray, List.set_cons_zero, List.set_cons_succ]
          refine wpAnyH_take (i := 2) (oi := _) (v := ?_) rfl (by kernel_rfl) (by kernel_rfl) (by kernel_rfl) (fun _ _ _ h => h) (Or.inl ⟨by rfl, ?_⟩) hHeld ?_
          rotate_left
          · (intro w hSw; (try dsimp only at hSw); go_simp; try with_reducible rfl)
          try simp only [Act.put, List.getElem_toArray, List.getElem_cons_succ, List.getElem_cons_zero, List.setIfInBounds_toArray, List.set_cons_zero, List.set_cons_succ]
          refine wpAnyH_take (i := 3) (oi := _) (v := ?_) rfl (by kernel_rfl) (by kernel_rfl) (by kernel_rfl) (fun _ _ _ h => h) (Or.inl ⟨by rfl, ?_⟩) hHeld ?_
          rotate_left
          · (intro w hSw; (try dsimp only at hSw); go_simp; try with_reducible rfl)
          try simp only [Act.put, List.getElem_toArray, List.getElem_cons_succ, List.getElem_cons_zero, List.setIfInBounds_toArray, List.set_cons_zero, List.set_cons_succ]
          refine wpAnyH_take (i := 4) (oi := _) (v := ?_) rfl (by kernel_rfl) (by kernel_rfl) (by kernel_rfl) (fun _ _ _ h => h) (Or.inl ⟨by rfl, ?_⟩) hHeld ?_
          rotate_left
          · (intro w hSw; (try dsimp only at hSw); go_simp; try with_reducible rfl)
          try simp only [Act.put, List.getElem_toArray, List.getElem_cons_succ, List.getElem_cons_zero, List.setIfInBounds_toArray, List.set_cons_zero, List.set_cons_succ]
          refine wpAnyH_take (i := 5) (oi := _) (v := ?_) rfl (by kernel_rfl) (by kernel_rfl) (by kernel_rfl) (fun _ _ _ h => h) (Or.inl ⟨by rfl, ?_⟩) hHeld ?_
          rotate_left
          · (intro w hSw; (try dsimp only at hSw); go_simp; try with_reducible rfl)
          try simp only [Act.put, List.getElem_toArray, List.getElem_cons_succ, List.getElem_cons_zero, List.setIfInBounds_toArray, List.set_cons_zero, List.set_cons_succ]
          refine wpAnyH_take (i := 6) (oi := _) (v := ?_) rfl (by kernel_rfl) (by kernel_rfl) (by kernel_rfl) (fun _ _ _ h => h) (Or.inl ⟨by rfl, ?_⟩) hHeld ?_
          rotate_left
          · (intro w hSw; (try dsimp only at hSw); go_simp; try with_reducible rfl)
          try simp only [Act.put, List.getElem_toArray, List.getElem_cons_succ, List.getElem_cons_zero, List.setIfInBounds_toArray, List.set_cons_zero, List.set_cons_succ]
          refine wpAnyH_take (i := 7) (oi := _) (v := ?_) rfl (by kernel_rfl) (by kernel_rfl) (by kernel_rfl) (fun _ _ _ h => h) (Or.inl ⟨by rfl, ?_⟩) hHeld ?_
          rotate_left
          · (intro w hSw; (try dsimp only at hSw); go_simp; try with_reducible rfl)
          try simp only [Act.put, List.getElem_toArray, List.getElem_cons_succ, List.getElem_cons_zero, List.setIfInBounds_toArray, List.set_cons_zero, List.set_cons_succ]
          refine wpAnyH_take (i := 9) (oi := _) (v := ?_) rfl (by kernel_rfl) (by kernel_rfl) (by kernel_rfl) (fun _ _ _ h => h) (Or.inl ⟨by rfl, ?_⟩) hHeld ?_
          rotate_left
          · (intro w hSw; (try dsimp only at hSw); go_simp; try with_reducible rfl)
          try simp only [Act.put, List.getElem_toArray, List.getElem_cons_succ, List.getElem_cons_zero, List.setIfInBounds_toArray, List.set_cons_zero, List.set_cons_succ]
          refine wpAnyH_take (i := 11) (oi := _) (v := ?_) rfl (by kernel_rfl) (by kernel_rfl) (by kernel_rfl) (fun _ _ _ h => h) (Or.inl ⟨by rfl, ?_⟩) hHeld ?_
          rotate_left
          · (intro w hSw; (try dsimp only at hSw); go_simp; try with_reducible rfl)
          try simp only [Act.put, List.getElem_toArray, List.getElem_cons_succ, List.getElem_cons_zero, List.setIfInBounds_toArray, List.set_cons_zero, List.set_cons_succ]
          refine wpAnyH_take (i := 12) (oi := _) (v := ?_) rfl (by kernel_rfl) (by kernel_rfl) (by kernel_rfl) (fun _ _ _ h => h) (Or.inl ⟨by rfl, ?_⟩) hHeld ?_
          rotate_left
          · (intro w hSw; (try dsimp only at hSw); go_simp; try with_reducible rfl)
          try simp only [Act.put, List.getElem_toArray, List.getElem_cons_succ, List.getElem_cons_zero, List.setIfInBounds_toArray, List.set_cons_zero, List.set_cons_succ]
          refine wpAnyH_take (i := 13) (oi := _) (v := ?_) rfl (by kernel_rfl) (by kernel_rfl) (by kernel_rfl) (fun _ _ _ h => h) (Or.inl ⟨by rfl, ?_⟩) hHeld ?_
          rotate_left
          · (intro w hSw; (try dsimp only at hSw); go_simp; try with_reducible rfl)
          try simp only [Act.put, List.getElem_toArray, List.getElem_cons_succ, List.getElem_cons_zero, List.setIfInBounds_toArray, List.set_cons_zero, List.set_cons_succ]
          refine wpAnyH_ready (rs := [8]) (by kernel_rfl) (by simp) ?_
          refine AllReadyH.cons (o := _) rfl (fun K0 hK0 => ?_) AllReadyH.nil
          go_simp
          refine (TM.out _ (by go_split_ands; assumption)).mono ?_
          rintro e9 w9 ⟨rfl, hb9⟩
          go_wp2_with fail
          have HB9 := Lib.hid hb9
          refine hK0.out _ _ (KH.out _ hb9) (fun hHeld => ?_)
          clear hK0 K0
          try simp only [Act.put, List.getElem_toArray, List.getElem_cons_succ, List.getElem_cons_zero, List.setIfInBounds_toArray, List.set_cons_zero, List.set_cons_succ]
          refine wpAnyH_take (i := 10) (oi := _) (v := ?_) rfl (by kernel_rfl) (by kernel_rfl) (by kernel_rfl) (fun _ _ _ h => h) (Or.inl ⟨by rfl, ?_⟩) hHeld ?_
          rotate_left
          · (intro w hSw; (try dsimp only at hSw); go_simp; try with_reducible rfl)
          try simp only [Act.put, List.getElem_toArray, List.getElem_cons_succ, List.getElem_cons_zero, List.setIfInBounds_toArray, List.set_cons_zero, List.set_cons_succ]
          refine wpAnyH_take (i := 14) (oi := _) (v := ?_) rfl (by kernel_rfl) (by kernel_rfl) (by kernel_rfl) (fun _ _ _ h => h) (Or.inl ⟨by rfl, ?_⟩) hHeld ?_
          rotate_left
          · (intro w hSw; (try dsimp only at hSw); go_simp; try with_reducible rfl)
          try simp only [Act.put, List.getElem_toArray, List.getElem_cons_succ, List.getElem_cons_zero, List.setIfInBounds_toArray, List.set_cons_zero, List.set_cons_succ]
          refine wpAnyH_take (i := 15) (oi := _) (v := ?_) rfl (by kernel_rfl) (by kernel_rfl) (by kernel_rfl) (fun _ _ _ h => h) (Or.inl ⟨by rfl, ?_⟩) hHeld ?_
          rotate_left
          · (intro w hSw; (try dsimp only at hSw); go_simp; try with_reducible rfl)
          try simp only [Act.put, List.getElem_toArray, List.getElem_cons_succ, List.getElem_cons_zero, List.setIfInBounds_toArray, List.set_cons_zero, List.set_cons_succ]
          refine wpAnyH_done (by kernel_rfl) ?_ _
          have B9 := HB9
          clear hHeld
          go_wp2_with fail
          refine (MX.out _).mono ?_
          rintro e wb ⟨rfl, hb⟩
          have B10 := Lib.hid (B9.out.trans (hb.mono B9.out.size))
          clear hb
          by_cases d1 : m1 - m2 > all + m4
          · have y1 : decide (m1 - m2 > all + m4) = true := decide_eq_true d1
            have E := Lib.hid (AT.out (by rw [FD.out]; simp [d1]))
            clear d1
            go_wp2
            go_ret
            exact ⟨by rw [EQ.out, E.out]; first | done | rfl, B3.out.trans ((BS.out.trans (B10.out.mono BS.out.size)).mono B3.out.size)⟩
          · have y1 : decide (m1 - m2 > all + m4) = false := decide_eq_false d1
            by_cases d2 : m1 - m2 < -(all + m4)
            · have y2 : decide (m1 - m2 < -(all + m4)) = true := decide_eq_true d2
              have E := Lib.hid (AT.out (by rw [FD.out]; simp [d2]))
              clear d1 d2
              go_wp2
              go_ret
              exact ⟨by rw [EQ.out, E.out]; first | done | rfl, B3.out.trans ((BS.out.trans (B10.out.mono BS.out.size)).mono B3.out.size)⟩
            · have y2 : decide (m1 - m2 < -(all + m4)) = false := decide_eq_false d2
              have E : Hid (anyf (farAt ids hs t all k) (j + 1) = false) := by show _ = _; rw [AN.out, NO.out, FD.out]; simp [d1, d2]
              clear d1 d2
              go_wp2
              go_roundw
              case rel => exact ⟨j + 1, by omega, by go_num, E.out, BS.out.trans (B10.out.mono BS.out.size)⟩
              case measure => simp [intOf]; omega
        · obtain rfl : j = k := by omega
          have hjj : ¬ ((j : Int) < (j : Int)) := by omega
          go_wp2
          go_ret
          exact ⟨by rw [EQ.out, NO.out]; first | done | rfl, B3.out.trans (BS.out.mono B3.out.size)⟩

end Go.Proofs.Ytkhphkfbjbhgaaa
