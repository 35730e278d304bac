/-
  The program's IsBalanced. No conditions beyond that the events can be read.
-/
import Derived.Test.YtckapndpefkcgaaGreatBal9
import Derived.Test.YtckapndpefkcgaaGreatU8s
set_option maxHeartbeats 1000000
namespace Go.Proofs.YtckapndpefkcgaaGreat
open List renaming getElem_toArray → zz1, getElem_cons_succ → zz2, getElem_cons_zero → zz3, setIfInBounds_toArray → zz4, set_cons_zero → zz5, set_cons_succ → zz6
open Go.RowKit
set_option maxRecDepth 100000

def ldst (x : Nat → Int) (cs : List Int) (ev : Int) : Nat → Nat
  | 0 => 0
  | i + 1 => if gi cs i = 0 ∧ x (i * 7 + 3) = 2 ∧ x (i * 7 + 4) = ev then i + 1 else ldst x cs ev i
theorem ldst_pos (x : Nat → Int) (cs : List Int) (ev : Int) : ∀ n, (0 < ldst x cs ev n ↔ ad9 x cs ev n = true) ∧ ldst x cs ev n ≤ n
  | 0 => ⟨⟨fun h => absurd h (Nat.lt_irrefl 0), fun h => (by cases h)⟩, Nat.le_refl _⟩
  | i + 1 => by
    obtain ⟨h1, h2⟩ := ldst_pos x cs ev i
    unfold ldst ad9
    by_cases hd : gi cs i = 0 ∧ x (i * 7 + 3) = 2 ∧ x (i * 7 + 4) = ev
    · rw [if_pos hd, decide_eq_true hd, Bool.or_true]
      exact ⟨⟨fun _ => rfl, fun _ => Nat.succ_pos i⟩, Nat.le_refl _⟩
    · rw [if_neg hd, decide_eq_false hd, Bool.or_false]
      exact ⟨h1, by omega⟩
theorem ldst_same {x : Nat → Int} {cs : List Int} {ev : Int} {k : Nat} : ∀ n, k ≤ n → (∀ j, k ≤ j → j < n → ¬ dst9 x cs ev j) → ldst x cs ev n = ldst x cs ev k
  | 0, hk, _ => by obtain rfl : k = 0 := by omega
                   rfl
  | n + 1, hk, h => by
    by_cases e : k = n + 1
    · subst e; rfl
    · have h1 : ¬ (gi cs n = 0 ∧ x (n * 7 + 3) = 2 ∧ x (n * 7 + 4) = ev) := h n (by omega) (by omega)
      have h2 : ldst x cs ev (n + 1) = ldst x cs ev n := if_neg h1
      rw [h2]
      exact ldst_same n (by omega) fun j h3 h4 => h j h3 (by omega)
set_option maxHeartbeats 4000000 in
theorem lastDestroyed_any (lo hi lo' hi' : Nat) (A : Option Addr) (n c : Nat) (x : Nat → Int) (B : Option Addr) (cb : Nat) (cs : List Int) (ev : Int) (w : World) (hn : n ≤ 400) (h : Sl w lo hi A (n * 7) (fun k => .int .i64 (x k))) (hc : Sl w lo' hi' B n (fun k => .int .i64 (gi cs k))) :
    Calls Tryz.prog 50 #[.slice A n c, .slice B n cb, .int .i64 ev] w fun e w' => e = .returned (.int .i64 (ldst x cs ev n : Int)) ∧ Below w.heap.size w w' := by
  have H := Lib.hid h.lt
  have HC := Lib.hid hc.lt
  clear h hc
  have wr0 : IntKind.i64.wrap ((n : Int) - 1) = (n : Int) - 1 := IntWalk.i64_in _ (by omega)
  go_enter Tryz.func50, Tryz.ntmps50
  go_wp2_with fail
  go_loopw [7] (fun i wr => ∃ k : Nat, k ≤ n ∧ i = .int .i64 ((k : Int) - 1) ∧ (∀ j, k ≤ j → j < n → ¬ dst9 x cs ev j) ∧ Below w.heap.size w wr) (fun i _ => (intOf i + 1).toNat)
  case atStart => exact ⟨n, Nat.le_refl _, rfl, fun j h1 h2 => absurd h2 (by omega), Below.refl _ _⟩
  case round =>
    obtain ⟨k, hk, rfl, had, hb⟩ := hrel
    have BR := Lib.hid hb
    have HAD := Lib.hid had
    rcases k with _ | k
    · have hk0 : ¬ (((0 : Nat) : Int) - 1 ≥ 0) := by omega
      have y : decide (((0 : Nat) : Int) - 1 ≥ 0) = false := decide_eq_false hk0
      go_wp2
      go_ret
      exact ⟨by rw [ldst_same n (Nat.zero_le _) (fun j h1 h2 => HAD.out j h1 h2)]; rfl, BR.out⟩
    · rw [show (((k + 1 : Nat) : Int) - 1) = (k : Int) by omega]
      obtain ⟨b, off, rfl, h1, h2, hc⟩ := H.out.at_ (show k * 7 < n * 7 by omega)
      obtain ⟨b2, off2, rfl, h1', h2', hc2⟩ := HC.out.at_ (show k < n by omega)
      have c0 : wr.cell? ⟨b2, off2 + k, none⟩ = some (.int .i64 (gi cs k)) := (hb.cell (p := ⟨b2, off2 + k, none⟩) (by simp; omega)).trans (hc2 k (by omega))
      have v3 : wr.cell? ⟨b, off + k * 7 + 3, none⟩ = some (.int .i64 (x (k * 7 + 3))) := (hb.cell (p := ⟨b, off + (k * 7 + 3), none⟩) (by simp; omega)).trans (hc (k * 7 + 3) (by omega))
      have v4 : wr.cell? ⟨b, off + k * 7 + 4, none⟩ = some (.int .i64 (x (k * 7 + 4))) := (hb.cell (p := ⟨b, off + (k * 7 + 4), none⟩) (by simp; omega)).trans (hc (k * 7 + 4) (by omega))
      have v5 : wr.cell? ⟨b, off + k * 7 + 5, none⟩ = some (.int .i64 (x (k * 7 + 5))) := (hb.cell (p := ⟨b, off + (k * 7 + 5), none⟩) (by simp; omega)).trans (hc (k * 7 + 5) (by omega))
      have v6 : wr.cell? ⟨b, off + k * 7 + 6, none⟩ = some (.int .i64 (x (k * 7 + 6))) := (hb.cell (p := ⟨b, off + (k * 7 + 6), none⟩) (by simp; omega)).trans (hc (k * 7 + 6) (by omega))
      obtain ⟨wa, hwa⟩ : ∃ V, V = wr.alloc (.cells #[.int .i64 (x (k * 7 + 3)), .int .i64 (x (k * 7 + 4)), .int .i64 (x (k * 7 + 5)), .int .i64 (x (k * 7 + 6))] 55) := ⟨_, rfl⟩
      obtain ⟨ge, hge⟩ : ∃ ge, ge = wr.heap.size := ⟨_, rfl⟩
      have KE : wa.heap[ge]? = some (.cells #[.int .i64 (x (k * 7 + 3)), .int .i64 (x (k * 7 + 4)), .int .i64 (x (k * 7 + 5)), .int .i64 (x (k * 7 + 6))] 55 (0, 0)) := by rw [hwa, hge]; exact heap_alloc_new wr _
      have BA : Hid (Below w.heap.size w wa) := by rw [hwa]; exact BR.out.trans ((below_new wr _).mono BR.out.size)
      have c0 : wa.cell? ⟨b2, off2 + k, none⟩ = some (.int .i64 (gi cs k)) := by rw [hwa]; exact ((below_new wr _).cell (World.block_lt_of_cell? _ _ c0)).trans c0
      have u0 := cell_of_row wa _ 0 _ _ _ KE; have u1 := cell_of_row wa _ 1 _ _ _ KE
      simp at u0 u1
      have DD : Hid (dst9 x cs ev k ↔ (gi cs k = 0 ∧ x (k * 7 + 3) = 2 ∧ x (k * 7 + 4) = ev)) := Iff.rfl
      have STEP : Hid (¬ (gi cs k = 0 ∧ x (k * 7 + 3) = 2 ∧ x (k * 7 + 4) = ev) → ∀ j, k ≤ j → j < n → ¬ dst9 x cs ev j) := fun hh j h1 h2 => by
        by_cases e : j = k
        · subst e; exact hh
        · exact HAD.out j (by omega) h2
      have FOUND : Hid (gi cs k = 0 → x (k * 7 + 3) = 2 → x (k * 7 + 4) = ev → ldst x cs ev n = k + 1) := fun q1 q2 q3 => (ldst_same n (by omega) (fun j h1 h2 => HAD.out j h1 h2)).trans (if_pos ⟨q1, q2, q3⟩)
      have HWA := Lib.hid hwa; have HGE := Lib.hid hge
      have y : decide ((k : Int) ≥ 0) = true := decide_eq_true (by omega)
      have z0 : (0 : Int) ≤ (k : Int) := by omega
      have z1 : (k : Int) < (n : Int) := by omega
      have wr1 : IntKind.i64.wrap ((k : Int) - 1) = (k : Int) - 1 := IntWalk.i64_in _ (by omega)
      clear hwa hge KE hc hc2 had hb DD
      go_upto_region 5 with (fail)
      rw [← HWA.out, ← HGE.out]
      clear HWA HGE v3 v4 v5 v6
      generalize gi cs k = q0 at *
      generalize x (k * 7 + 3) = q1 at *
      generalize x (k * 7 + 4) = q2 at *
      by_cases e0 : q0 = 0
      case neg =>
        have y0 : (q0 == 0) = false := by simp [e0]
        have E2 := Lib.hid (STEP.out (fun hh => e0 hh.1))
        clear STEP FOUND e0
        go_wp2
        go_roundw
        case rel => exact ⟨k, by omega, rfl, E2.out, BA.out⟩
        case measure => simp [intOf]
      have y0 : (q0 == 0) = true := by simp [e0]
      by_cases e1 : q1 = 2
      case neg =>
        have y1 : (q1 == 2) = false := by simp [e1]
        have E2 := Lib.hid (STEP.out (fun hh => e1 hh.2.1))
        clear STEP FOUND e0
        go_wp2
        go_roundw
        case rel => exact ⟨k, by omega, rfl, E2.out, BA.out⟩
        case measure => simp [intOf]
      have y1 : (q1 == 2) = true := by simp [e1]
      by_cases e2 : q2 = ev
      case neg =>
        have y2 : (q2 == ev) = false := by simp [e2]
        have E2 := Lib.hid (STEP.out (fun hh => e2 hh.2.2))
        clear STEP FOUND e0
        go_wp2
        go_roundw
        case rel => exact ⟨k, by omega, rfl, E2.out, BA.out⟩
        case measure => simp [intOf]
      have y2 : (q2 == ev) = true := by simp [e2]
      have FD := Lib.hid (FOUND.out e0 e1 e2)
      clear e0 e1 e2 STEP FOUND
      go_wp2
      go_ret
      exact ⟨ret_i64 (by rw [FD.out]; first | rfl | omega), BA.out⟩

set_option maxHeartbeats 4000000 in
theorem isBal1_any {w W : World} {h : Nat} {p : Kp} {K : Ker} {A4 : Option Addr} {k c4 : Nat} {cs : List Int} {A5 : Option Addr} {m c5 : Nat} {ns : List Int} {ev : Int} {G : Gst} (J : LoopA w W h p K A4 k c4 cs A5 m c5 ns ev G) (ga ge : Nat) (kd : Int) (hga : W.heap[ga]? = some (.cells #[.pointer (some ⟨h, 0, none⟩)] 80 (0, 0))) (hge : W.heap[ge]? = some (.cells #[.int .i64 ev] 2 (0, 0))) (hm : m ≤ 1200) :
    Calls Tryz.prog 49 #[.int .i64 kd, .pointer (some ⟨ga, 0, none⟩), .pointer (some ⟨ge, 0, none⟩)] W fun e w' => e = .returned (.int .i64 (nct (gi ns) ev kd (ns.length / 3) : Int)) ∧ Below W.heap.size W w' := by
  have ML : Hid (m = ns.length / 3) := by have := J.on.len; show m = _; omega
  have SLN : Hid (∀ V, Below W.heap.size W V → Sl V w.heap.size V.heap.size A5 (m * 3) (fun k => .int .i64 (gi ns k))) := fun V hV => OR.sl0 (J.below hV).on
  have KH : Hid (∀ V, Below W.heap.size W V → (V.cell? ⟨ga, 0, none⟩ = some (.pointer (some ⟨h, 0, none⟩)) ∧ V.cell? ⟨ge, 0, none⟩ = some (.int .i64 ev) ∧ V.cell? ⟨h, 7, none⟩ = some (.slice A5 m c5)) ∧ Below W.heap.size W V) := fun V hV => by
    have j := (hV.block h (Array.getElem?_eq_some_iff.1 J.box).1).trans J.box
    have j1 := (hV.block ga (Array.getElem?_eq_some_iff.1 hga).1).trans hga
    have j2 := (hV.block ge (Array.getElem?_eq_some_iff.1 hge).1).trans hge
    exact ⟨⟨cell_of_row V _ 0 _ _ _ j1, cell_of_row V _ 0 _ _ _ j2, cell_of_row V _ 7 _ _ _ j⟩, hV⟩
  have CN : Hid (∀ V, Below W.heap.size W V → Calls Tryz.prog 14 #[.slice A5 m c5, .int .i64 ev, .int .i64 kd] V fun e w' => e = .returned (.int .i64 (nct (gi ns) ev kd (ns.length / 3) : Int)) ∧ Below W.heap.size W w') := fun V hV => by
    rw [← ML.out]
    exact (implCountNotes_any _ _ A5 m c5 (gi ns) ev kd V (by omega) (SLN.out V hV)).mono fun e w' hh => ⟨hh.1, hV.trans (hh.2.mono hV.size)⟩
  clear J hga hge
  go_enter Tryz.func49, Tryz.ntmps49
  go_upto_region 1 with (fail)
  refine wp_region_held_drew (S := fun V => (V.cell? ⟨ga, 0, none⟩ = some (.pointer (some ⟨h, 0, none⟩)) ∧ V.cell? ⟨ge, 0, none⟩ = some (.int .i64 ev) ∧ V.cell? ⟨h, 7, none⟩ = some (.slice A5 m c5)) ∧ Below W.heap.size W V) (by kernel_rfl) (KH.out _ (Below.drew (Below.refl _ _))) (fun hHeld => ?_)
  obtain ⟨v0, hv0⟩ : ∃ v0, v0 = W.drew := ⟨_, rfl⟩
  have BL0 : Hid (Below W.heap.size W v0) := by rw [hv0]; exact Below.drew (Below.refl _ _)
  rw [← hv0] at hHeld ⊢
  clear hv0
  refine tkH 0 ?_ rfl ?_ hHeld ?_; rotate_left; (intro w hSw; (try dsimp only at hSw); go_simp; try with_reducible rfl); try simp only [Act.put, zz1, zz2, zz3, zz4, zz5, zz6]
  refine tkH 1 ?_ rfl ?_ hHeld ?_; rotate_left; (intro w hSw; (try dsimp only at hSw); go_simp; try with_reducible rfl); try simp only [Act.put, zz1, zz2, zz3, zz4, zz5, zz6]
  refine tkH 2 ?_ rfl ?_ hHeld ?_; rotate_left; (intro w hSw; (try dsimp only at hSw); go_simp; try with_reducible rfl); try simp only [Act.put, zz1, zz2, zz3, zz4, zz5, zz6]
  refine tkH 3 ?_ rfl ?_ hHeld ?_; rotate_left; (intro w hSw; (try dsimp only at hSw); go_simp; try with_reducible rfl); try simp only [Act.put, zz1, zz2, zz3, zz4, zz5, zz6]
  refine tkH 4 ?_ rfl ?_ hHeld ?_; rotate_left; (intro w hSw; (try dsimp only at hSw); go_simp; try with_reducible rfl); try simp only [Act.put, zz1, zz2, zz3, zz4, zz5, zz6]
  refine tkH 5 ?_ rfl ?_ hHeld ?_; rotate_left; (intro w hSw; (try dsimp only at hSw); go_simp; try with_reducible rfl); try simp only [Act.put, zz1, zz2, zz3, zz4, zz5, zz6]
  refine tkH 6 ?_ rfl ?_ hHeld ?_; rotate_left; (intro w hSw; (try dsimp only at hSw); go_simp; try with_reducible rfl); try simp only [Act.put, zz1, zz2, zz3, zz4, zz5, zz6]
  refine wpAnyH_ready (rs := [7]) (by kernel_rfl) (by simp) ?_
  refine AllReadyH.cons (o := _) rfl (fun K0 hK0 => ?_) AllReadyH.nil
  go_simp
  refine (CN.out _ (by go_split_ands; assumption)).mono ?_
  rintro e9 w9 ⟨rfl, hb9⟩
  go_wp2_with fail
  have HB9 := Lib.hid hb9
  refine hK0.out _ _ (KH.out _ hb9) (fun hHeld => ?_)
  clear hK0 K0
  try simp only [Act.put, zz1, zz2, zz3, zz4, zz5, zz6]
  refine tkH 8 ?_ rfl ?_ hHeld ?_; rotate_left; (intro w hSw; (try dsimp only at hSw); go_simp; try with_reducible rfl); try simp only [Act.put, zz1, zz2, zz3, zz4, zz5, zz6]
  refine wpAnyH_done (by kernel_rfl) ?_ _
  go_wp2
  go_ret
  exact ⟨rfl, HB9.out⟩

set_option maxHeartbeats 16000000 in
theorem implIsBalanced_any (lo hi : Nat) (A : Option Addr) (n c : Nat) (x : Nat → Int) (mm ev : Int) (w : World) (hn : n ≤ 9223372036854775807) (h : Sl w lo hi A (n * 7) (fun k => .int .i64 (x k))) :
    Calls Tryz.prog 9 #[.int .i64 mm, .slice A n c, .int .i64 ev] w fun e w' => e = .returned (.bool (bal9 mm x n ev)) ∧ Below w.heap.size w w' := by
  obtain ⟨w1, hw1⟩ : ∃ w1, w1 = w.alloc (.cells #[.int .i64 ev] 2) := ⟨_, rfl⟩
  have K1 : Hid (w1.heap[w.heap.size]? = some (.cells #[.int .i64 ev] 2 (0, 0))) := by show _ = _; rw [hw1]; exact heap_alloc_new w _
  have B1 : Hid (Below w.heap.size w w1) := by rw [hw1]; exact below_new w _
  have Z1 : Hid (w1.heap.size = w.heap.size + 1) := by show _ = _; rw [hw1]; simp
  have H := Lib.hid (h.lt.below B1.out (Nat.min_le_right _ _))
  have AS := Lib.hid (auditOf_any mm A n c ev w1 hn)
  have HW1 := Lib.hid hw1
  have k0 := cell_of_row w1 _ 0 _ _ _ K1.out
  simp at k0
  clear hw1 h
  go_enter Tryz.func9, Tryz.ntmps9
  go_upto_region 1 with (fail)
  rw [← HW1.out]
  clear HW1
  go_wp2_with fail
  refine AS.out.mono ?_
  rintro e w2 ⟨h, rfl, hh, hbad, hgood, hb⟩
  have B12 := Lib.hid hb
  obtain ⟨w3, hw3⟩ : ∃ w3, w3 = w2.alloc (.cells #[.pointer (some ⟨h, 0, none⟩)] 80) := ⟨_, rfl⟩
  obtain ⟨ga, hga⟩ : ∃ ga, ga = w2.heap.size := ⟨_, rfl⟩
  have KA : Hid (w3.heap[ga]? = some (.cells #[.pointer (some ⟨h, 0, none⟩)] 80 (0, 0))) := by show _ = _; rw [hw3, hga]; exact heap_alloc_new w2 _
  have BN3 : Hid (Below w2.heap.size w2 w3) := by rw [hw3]; exact below_new w2 _
  have B13 := Lib.hid (B12.out.trans (BN3.out.mono B12.out.size))
  have ZG : Hid (ga = w2.heap.size) := hga
  have HW3 := Lib.hid hw3; have HGA := Lib.hid hga
  clear hb AS hw3 hga k0
  go_upto_region 2 with (fail)
  rw [← HW3.out, ← HGA.out]
  clear HW3 HGA
  have ka0 := cell_of_row w3 _ 0 _ _ _ KA.out
  simp at ka0
  by_cases h0 : ask9 mm n ev = 0
  case neg =>
    have hk := (BN3.out.block h (Array.getElem?_eq_some_iff.1 (hbad h0)).1).trans (hbad h0)
    clear hgood hbad
    obtain ⟨q, hq⟩ : ∃ q, q = ask9 mm n ev := ⟨_, rfl⟩
    rw [← hq] at hk
    have E : Hid (bal9 mm x n ev = false) := by show _ = _; unfold bal9; rw [if_pos h0]
    have y : (q != 0) = true := by simp [hq, h0]
    have c0 := cell_of_row w3 _ 0 _ _ _ hk
    simp at c0
    clear h0 hq hk
    go_wp2
    go_ret
    exact ⟨by rw [E.out]; first | done | rfl, B1.out.trans (B13.out.mono (by have := Z1.out; omega))⟩
  obtain ⟨p0, hJ⟩ := hgood h0
  have ha := (ask9_zero h0).1
  have hev : 0 ≤ ev ∧ ev < 4 := by simpa [inEnv] using (ask9_zero h0).2
  have E : Hid (bal9 mm x n ev = balr (tks (opens9 ev) (new3 mm) x n).length x n ev (run3 (new3 mm) x n).1 (run3 (new3 mm) x n).2.1 (run3 (new3 mm) x n).2.2) := by show _ = _; unfold bal9; rw [if_neg (by simp [h0])]
  have hJ3 := hJ.below BN3.out
  have hk := hJ3.box
  have c0 := cell_of_row w3 _ 0 _ _ _ hk
  simp at c0
  have H3 := Lib.hid (H.out.below B13.out (by have := Z1.out; omega))
  have TW := Lib.hid (ticksO_any (hJ3.setB (b := ga) (by have := ZG.out; have := B12.out.size; omega) KA.out (by decide)) ha A c lo (min hi w.heap.size) x H3.out (by have := Z1.out; omega))
  obtain ⟨_, hm0, hn4⟩ := rk3_good (x := x) ha
  have N4 := Lib.hid hn4
  have ALL := Lib.hid (run3_all (x := x) (sk_new hm0).1 rfl n hn4)
  have HA := Lib.hid hev
  clear hbad hgood hJ hJ3 hk ha h0 hm0 hn4 hev
  go_upto_region 4 with (fail)
  clear c0
  go_wp2_with fail
  refine TW.out.mono ?_
  rintro e w4 ⟨p', A4, c4, A5, m, c5, T, tn, tc, rfl, hJ, hb⟩
  have JJ := Lib.hid hJ
  have LT : Hid ((tks (opens9 ev) (new3 mm) x n).length = tn ∧ tn ≤ 400) := by
    have l1 := hJ.og.len
    have l2 := tks_le (opens9 ev) (new3 mm) x n
    have := N4.out
    simp only at l1
    show _ ∧ _
    omega
  have B14 := Lib.hid hb
  have GE4 := Lib.hid ((hb.block w.heap.size (by have := Z1.out; omega)).trans K1.out)
  have H4 := Lib.hid (H.out.below hb (by have := Z1.out; omega))
  obtain ⟨ee, he⟩ : ∃ ee : Nat, ev = (ee : Int) := ⟨ev.toNat, by have := HA.out; omega⟩
  subst he
  have EE : Hid (ee < 4) := by have := HA.out; show _ < _; omega
  rw [LT.out.1] at E
  have LC : Hid ((run3 (new3 mm) x n).2.1.length = n ∧ (run3 (new3 mm) x n).2.2.length ≤ 3600) := ⟨ALL.out.2.2.1, Nat.le_trans ALL.out.2.2.2 (by have := N4.out; omega)⟩
  generalize tks (opens9 (ee : Int)) (new3 mm) x n = ts at *
  obtain ⟨r, hr⟩ : ∃ r, r = run3 (new3 mm) x n := ⟨_, rfl⟩
  rw [← hr] at JJ E LC
  obtain ⟨K, cs, ns⟩ := r
  have JJ : Hid (LoopA w1 w4 h p' K A4 n c4 cs A5 m c5 ns (ee : Int) ⟨T, tn, tc, ts, some ga, 80, #[.pointer (some ⟨h, 0, none⟩)]⟩) := JJ.out
  have E : Hid (bal9 mm x n (ee : Int) = balr tn x n (ee : Int) K cs ns) := E.out
  have LC : Hid (cs.length = n ∧ ns.length ≤ 3600) := LC.out
  have ML : Hid (m ≤ 1200) := by have := JJ.out.on.len; have := LC.out; show m ≤ 1200; omega
  have KA4 := Lib.hid (JJ.out.ob ga rfl).2.1
  have KA4 : Hid (w4.heap[ga]? = some (.cells #[.pointer (some ⟨h, 0, none⟩)] 80 (0, 0))) := KA4.out
  obtain ⟨ba, oa, hA3, _, _, hca⟩ := JJ.out.own.m3.sl.at_ (show ee * 4 + 3 < 16 by have := EE.out; omega)
  have d0 := hca (ee * 4 + 3) (by have := EE.out; omega)
  obtain ⟨db, hdb⟩ : ∃ db, db = gi K.ac (ee * 4 + 3) := ⟨_, rfl⟩
  have d0 : w4.cell? ⟨ba, oa + (ee * 4 + 3), none⟩ = some (.int .i64 db) := by rw [hdb]; exact d0
  have KH : Hid (∀ W, Below w4.heap.size w4 W → (W.cell? ⟨ga, 0, none⟩ = some (.pointer (some ⟨h, 0, none⟩)) ∧ W.cell? ⟨w.heap.size, 0, none⟩ = some (.int .i64 (ee : Int)) ∧ W.cell? ⟨h, 3, none⟩ = some (.slice (some ⟨ba, oa, none⟩) 4 p'.c3) ∧ W.cell? ⟨h, 6, none⟩ = some (.slice A4 n c4) ∧ W.cell? ⟨ba, oa + ee * 4 + 3, none⟩ = some (.int .i64 db)) ∧ Below w4.heap.size w4 W) := fun W hW => by
    have j := (hW.block h (Array.getElem?_eq_some_iff.1 JJ.out.box).1).trans JJ.out.box
    rw [hA3] at j
    have j1 := (hW.block ga (Array.getElem?_eq_some_iff.1 KA4.out).1).trans KA4.out
    have j2 := (hW.block w.heap.size (Array.getElem?_eq_some_iff.1 GE4.out).1).trans GE4.out
    exact ⟨⟨cell_of_row W _ 0 _ _ _ j1, cell_of_row W _ 0 _ _ _ j2, cell_of_row W _ 3 _ _ _ j, cell_of_row W _ 6 _ _ _ j, (hW.cell (World.block_lt_of_cell? _ _ d0)).trans d0⟩, hW⟩
  have CL : Hid (∀ kd W, Below w4.heap.size w4 W → Calls Tryz.prog 49 #[.int .i64 kd, .pointer (some ⟨ga, 0, none⟩), .pointer (some ⟨w.heap.size, 0, none⟩)] W fun e w' => e = .returned (.int .i64 (nct (gi ns) (ee : Int) kd (ns.length / 3) : Int)) ∧ Below w4.heap.size w4 w') := fun kd W hW =>
    (isBal1_any (JJ.out.below hW) ga w.heap.size kd ((hW.block ga (Array.getElem?_eq_some_iff.1 KA4.out).1).trans KA4.out) ((hW.block w.heap.size (Array.getElem?_eq_some_iff.1 GE4.out).1).trans GE4.out) ML.out).mono fun e w' hh => ⟨hh.1, hW.trans (hh.2.mono hW.size)⟩
  have LD : Hid (∀ W, Below w4.heap.size w4 W → Calls Tryz.prog 50 #[.slice A n c, .slice A4 n c4, .int .i64 (ee : Int)] W fun e w' => e = .returned (.int .i64 (ldst x cs (ee : Int) n : Int)) ∧ Below w4.heap.size w4 w') := fun W hW => by
    have oc := OR.sl0 (JJ.out.below hW).oc
    rw [Nat.mul_one] at oc
    exact (lastDestroyed_any lo (min hi w.heap.size) _ _ A n c x A4 c4 cs (ee : Int) W N4.out (H4.out.below hW (by have := hb.size; have := Z1.out; omega)) oc).mono fun e w' hh => ⟨hh.1, hW.trans (hh.2.mono hW.size)⟩
  have FIN : Hid (∀ W, Below w4.heap.size w4 W → Below w.heap.size w W) := fun W hW => B1.out.trans ((B14.out.trans (hW.mono B14.out.size)).mono (by have := Z1.out; omega))
  have c1 := nct_le (gi ns) (ee : Int) 1 (ns.length / 3)
  have c2 := nct_le (gi ns) (ee : Int) 2 (ns.length / 3)
  have c6 := nct_le (gi ns) (ee : Int) 6 (ns.length / 3)
  have cl := LC.out.2
  have wl := LT.out.2
  have CL1 := Lib.hid (CL.out 1); have CL2 := Lib.hid (CL.out 2); have CL6 := Lib.hid (CL.out 6)
  obtain ⟨a1, ha1⟩ : ∃ a, a = nct (gi ns) (ee : Int) 1 (ns.length / 3) := ⟨_, rfl⟩
  obtain ⟨a2, ha2⟩ : ∃ a, a = nct (gi ns) (ee : Int) 2 (ns.length / 3) := ⟨_, rfl⟩
  obtain ⟨a6, ha6⟩ : ∃ a, a = nct (gi ns) (ee : Int) 6 (ns.length / 3) := ⟨_, rfl⟩
  have E : Hid (bal9 mm x n (ee : Int) = if (tn : Int) ≠ (a1 : Int) + (a2 : Int) then false else if ad9 x cs (ee : Int) n = true then true else decide (db = (a6 : Int) - (a2 : Int))) := by show _ = _; rw [E.out, ha1, ha2, ha6, hdb]; rfl
  rw [← ha1] at c1 CL1
  rw [← ha2] at c2 CL2
  rw [← ha6] at c6 CL6
  obtain ⟨ld, hld⟩ : ∃ ld, ld = ldst x cs (ee : Int) n := ⟨_, rfl⟩
  have LP : Hid ((0 < ld ↔ ad9 x cs (ee : Int) n = true) ∧ ld ≤ n) := by show _ ∧ _; rw [hld]; exact ldst_pos x cs (ee : Int) n
  rw [← hld] at LD
  obtain ⟨li, hli⟩ : ∃ li : Int, li = (ld : Int) := ⟨_, rfl⟩
  rw [← hli] at LD
  have LI := Lib.hid hli
  have A1 : a1 ≤ 1200 := by omega
  have A2 : a2 ≤ 1200 := by omega
  have A6 : a6 ≤ 1200 := by omega
  have wr1 : IntKind.i64.wrap ((a1 : Int) + (a2 : Int)) = (a1 : Int) + (a2 : Int) := IntWalk.i64_in _ (by omega)
  have wr2 : IntKind.i64.wrap ((a6 : Int) - (a2 : Int)) = (a6 : Int) - (a2 : Int) := IntWalk.i64_in _ (by omega)
  have ez : (0 : Int) ≤ (ee : Int) := by omega
  have ez4 : (ee : Int) < 4 := by have := EE.out; omega
  clear hli ha1 ha2 ha6 hdb hld c1 c2 c6 cl CL hr hJ hb hca hA3 d0 TW ka0 hn hh
  go_wp2_with fail
  refine (CL1.out w4 (Below.refl _ _)).mono ?_
  rintro e w5 ⟨rfl, hb⟩
  have B5 := Lib.hid hb
  clear hb
  go_wp2_with fail
  refine (CL2.out w5 B5.out).mono ?_
  rintro e w6 ⟨rfl, hb⟩
  have B6 := Lib.hid hb
  clear hb
  by_cases e0 : (tn : Int) = (a1 : Int) + (a2 : Int)
  case neg =>
    have y : ((tn : Int) != (a1 : Int) + (a2 : Int)) = true := by simp [e0]
    have E2 : Hid (bal9 mm x n (ee : Int) = false) := by show _ = _; rw [E.out, if_pos e0]
    clear e0
    go_wp2
    go_ret
    exact ⟨by rw [E2.out]; first | done | rfl, FIN.out _ B6.out⟩
  have y : ((tn : Int) != (a1 : Int) + (a2 : Int)) = false := by simp [e0]
  have E : Hid (bal9 mm x n (ee : Int) = if ad9 x cs (ee : Int) n = true then true else decide (db = (a6 : Int) - (a2 : Int))) := by show _ = _; rw [E.out, if_neg (by simp [e0])]
  clear e0
  go_upto_region 8 with (fail)
  clear y
  rcases had : ad9 x cs (ee : Int) n with _ | _
  case true =>
    have y0 : li > 0 := by have := LP.out.1.2 had; have := LI.out; omega
    have y : decide (li > 0) = true := decide_eq_true y0
    have E2 : Hid (bal9 mm x n (ee : Int) = true) := by show _ = _; rw [E.out, if_pos had]
    clear had
    refine wp_region_held_drew (S := fun W => (W.cell? ⟨ga, 0, none⟩ = some (.pointer (some ⟨h, 0, none⟩)) ∧ W.cell? ⟨w.heap.size, 0, none⟩ = some (.int .i64 (ee : Int)) ∧ W.cell? ⟨h, 3, none⟩ = some (.slice (some ⟨ba, oa, none⟩) 4 p'.c3) ∧ W.cell? ⟨h, 6, none⟩ = some (.slice A4 n c4) ∧ W.cell? ⟨ba, oa + ee * 4 + 3, none⟩ = some (.int .i64 db)) ∧ Below w4.heap.size w4 W) (by kernel_rfl) (KH.out _ B6.out.drew) (fun hHeld => ?_)
    obtain ⟨v0, hv0⟩ : ∃ v0, v0 = w6.drew := ⟨_, rfl⟩
    have BL0 : Hid (Below w6.heap.size w6 v0) := by rw [hv0]; exact Below.drew (Below.refl _ _)
    rw [← hv0] at hHeld ⊢
    clear hv0
    refine tkH 0 ?_ rfl ?_ hHeld ?_; rotate_left; (intro w hSw; (try dsimp only at hSw); go_simp; try with_reducible rfl); try simp only [Act.put, zz1, zz2, zz3, zz4, zz5, zz6]
    refine tkH 1 ?_ rfl ?_ hHeld ?_; rotate_left; (intro w hSw; (try dsimp only at hSw); go_simp; try with_reducible rfl); try simp only [Act.put, zz1, zz2, zz3, zz4, zz5, zz6]
    refine tkH 2 ?_ rfl ?_ hHeld ?_; rotate_left; (intro w hSw; (try dsimp only at hSw); go_simp; try with_reducible rfl); try simp only [Act.put, zz1, zz2, zz3, zz4, zz5, zz6]
    refine tkH 3 ?_ rfl ?_ hHeld ?_; rotate_left; (intro w hSw; (try dsimp only at hSw); go_simp; try with_reducible rfl); try simp only [Act.put, zz1, zz2, zz3, zz4, zz5, zz6]
    refine tkH 4 ?_ rfl ?_ hHeld ?_; rotate_left; (intro w hSw; (try dsimp only at hSw); go_simp; try with_reducible rfl); try simp only [Act.put, zz1, zz2, zz3, zz4, zz5, zz6]
    refine tkH 5 ?_ rfl ?_ hHeld ?_; rotate_left; (intro w hSw; (try dsimp only at hSw); go_simp; try with_reducible rfl); try simp only [Act.put, zz1, zz2, zz3, zz4, zz5, zz6]
    refine tkH 6 ?_ rfl ?_ hHeld ?_; rotate_left; (intro w hSw; (try dsimp only at hSw); go_simp; try with_reducible rfl); try simp only [Act.put, zz1, zz2, zz3, zz4, zz5, zz6]
    refine wpAnyH_ready (rs := [7]) (by kernel_rfl) (by simp) ?_
    refine AllReadyH.cons (o := _) rfl (fun K0 hK0 => ?_) AllReadyH.nil
    go_simp
    refine (LD.out _ (by go_split_ands; assumption)).mono ?_
    rintro e9 w9 ⟨rfl, hb9⟩
    go_wp2_with fail
    have HB9 := Lib.hid hb9
    refine hK0.out _ _ (KH.out _ hb9) (fun hHeld => ?_)
    clear hK0 K0
    try simp only [Act.put, zz1, zz2, zz3, zz4, zz5, zz6]
    refine tkH 8 ?_ rfl ?_ hHeld ?_; rotate_left; (intro w hSw; (try dsimp only at hSw); go_simp; try with_reducible rfl); try simp only [Act.put, zz1, zz2, zz3, zz4, zz5, zz6]
    refine wpAnyH_done (by kernel_rfl) ?_ _
    go_wp2
    go_ret
    exact ⟨by rw [E2.out]; first | done | rfl, FIN.out _ HB9.out⟩
  have y0 : ¬ (li > 0) := fun hh => by have := LP.out.1.1 (by have := LI.out; omega); rw [had] at this; cases this
  have y : decide (li > 0) = false := decide_eq_false y0
  have E : Hid (bal9 mm x n (ee : Int) = decide (db = (a6 : Int) - (a2 : Int))) := by show _ = _; rw [E.out, had, if_neg (by simp)]
  clear had
  refine wp_region_held_drew (S := fun W => (W.cell? ⟨ga, 0, none⟩ = some (.pointer (some ⟨h, 0, none⟩)) ∧ W.cell? ⟨w.heap.size, 0, none⟩ = some (.int .i64 (ee : Int)) ∧ W.cell? ⟨h, 3, none⟩ = some (.slice (some ⟨ba, oa, none⟩) 4 p'.c3) ∧ W.cell? ⟨h, 6, none⟩ = some (.slice A4 n c4) ∧ W.cell? ⟨ba, oa + ee * 4 + 3, none⟩ = some (.int .i64 db)) ∧ Below w4.heap.size w4 W) (by kernel_rfl) (KH.out _ B6.out.drew) (fun hHeld => ?_)
  obtain ⟨v0, hv0⟩ : ∃ v0, v0 = w6.drew := ⟨_, rfl⟩
  have BL0 : Hid (Below w6.heap.size w6 v0) := by rw [hv0]; exact Below.drew (Below.refl _ _)
  rw [← hv0] at hHeld ⊢
  clear hv0
  refine tkH 0 ?_ rfl ?_ hHeld ?_; rotate_left; (intro w hSw; (try dsimp only at hSw); go_simp; try with_reducible rfl); try simp only [Act.put, zz1, zz2, zz3, zz4, zz5, zz6]
  refine tkH 1 ?_ rfl ?_ hHeld ?_; rotate_left; (intro w hSw; (try dsimp only at hSw); go_simp; try with_reducible rfl); try simp only [Act.put, zz1, zz2, zz3, zz4, zz5, zz6]
  refine tkH 2 ?_ rfl ?_ hHeld ?_; rotate_left; (intro w hSw; (try dsimp only at hSw); go_simp; try with_reducible rfl); try simp only [Act.put, zz1, zz2, zz3, zz4, zz5, zz6]
  refine tkH 3 ?_ rfl ?_ hHeld ?_; rotate_left; (intro w hSw; (try dsimp only at hSw); go_simp; try with_reducible rfl); try simp only [Act.put, zz1, zz2, zz3, zz4, zz5, zz6]
  refine tkH 4 ?_ rfl ?_ hHeld ?_; rotate_left; (intro w hSw; (try dsimp only at hSw); go_simp; try with_reducible rfl); try simp only [Act.put, zz1, zz2, zz3, zz4, zz5, zz6]
  refine tkH 5 ?_ rfl ?_ hHeld ?_; rotate_left; (intro w hSw; (try dsimp only at hSw); go_simp; try with_reducible rfl); try simp only [Act.put, zz1, zz2, zz3, zz4, zz5, zz6]
  refine tkH 6 ?_ rfl ?_ hHeld ?_; rotate_left; (intro w hSw; (try dsimp only at hSw); go_simp; try with_reducible rfl); try simp only [Act.put, zz1, zz2, zz3, zz4, zz5, zz6]
  refine wpAnyH_ready (rs := [7]) (by kernel_rfl) (by simp) ?_
  refine AllReadyH.cons (o := _) rfl (fun K0 hK0 => ?_) AllReadyH.nil
  go_simp
  refine (LD.out _ (by go_split_ands; assumption)).mono ?_
  rintro e9 w9 ⟨rfl, hb9⟩
  go_wp2_with fail
  have HB9 := Lib.hid hb9
  refine hK0.out _ _ (KH.out _ hb9) (fun hHeld => ?_)
  clear hK0 K0
  try simp only [Act.put, zz1, zz2, zz3, zz4, zz5, zz6]
  refine tkH 8 ?_ rfl ?_ hHeld ?_; rotate_left; (intro w hSw; (try dsimp only at hSw); go_simp; try with_reducible rfl); try simp only [Act.put, zz1, zz2, zz3, zz4, zz5, zz6]
  refine wpAnyH_done (by kernel_rfl) ?_ _
  have B9 := HB9
  clear y y0 hHeld
  obtain ⟨wq, hwq⟩ : ∃ wq, wq = w9 := ⟨_, rfl⟩
  subst hwq
  go_upto_region 10 with (fail)
  by_cases e0 : db = (a6 : Int) - (a2 : Int)
  · have y : (db == (a6 : Int) - (a2 : Int)) = true := by simp [e0]
    have E3 : Hid (bal9 mm x n (ee : Int) = true) := by show _ = _; rw [E.out]; simp [e0]
    clear e0
    refine wp_region_held_drew (S := fun W => (W.cell? ⟨ga, 0, none⟩ = some (.pointer (some ⟨h, 0, none⟩)) ∧ W.cell? ⟨w.heap.size, 0, none⟩ = some (.int .i64 (ee : Int)) ∧ W.cell? ⟨h, 3, none⟩ = some (.slice (some ⟨ba, oa, none⟩) 4 p'.c3) ∧ W.cell? ⟨h, 6, none⟩ = some (.slice A4 n c4) ∧ W.cell? ⟨ba, oa + ee * 4 + 3, none⟩ = some (.int .i64 db)) ∧ Below w4.heap.size w4 W) (by kernel_rfl) (KH.out _ B9.out.drew) (fun hHeld => ?_)
    obtain ⟨v0, hv0⟩ : ∃ v0, v0 = wq.drew := ⟨_, rfl⟩
    have BL0 : Hid (Below wq.heap.size wq v0) := by rw [hv0]; exact Below.drew (Below.refl _ _)
    rw [← hv0] at hHeld ⊢
    clear hv0
    refine tkH 0 ?_ rfl ?_ hHeld ?_; rotate_left; (intro w hSw; (try dsimp only at hSw); go_simp; try with_reducible rfl); try simp only [Act.put, zz1, zz2, zz3, zz4, zz5, zz6]
    refine tkH 1 ?_ rfl ?_ hHeld ?_; rotate_left; (intro w hSw; (try dsimp only at hSw); go_simp; try with_reducible rfl); try simp only [Act.put, zz1, zz2, zz3, zz4, zz5, zz6]
    refine tkH 2 ?_ rfl ?_ hHeld ?_; rotate_left; (intro w hSw; (try dsimp only at hSw); go_simp; try with_reducible rfl); try simp only [Act.put, zz1, zz2, zz3, zz4, zz5, zz6]
    refine tkH 3 ?_ rfl ?_ hHeld ?_; rotate_left; (intro w hSw; (try dsimp only at hSw); go_simp; try with_reducible rfl); try simp only [Act.put, zz1, zz2, zz3, zz4, zz5, zz6]
    refine tkH 4 ?_ rfl ?_ hHeld ?_; rotate_left; (intro w hSw; (try dsimp only at hSw); go_simp; try with_reducible rfl); try simp only [Act.put, zz1, zz2, zz3, zz4, zz5, zz6]
    refine tkH 5 ?_ rfl ?_ hHeld ?_; rotate_left; (intro w hSw; (try dsimp only at hSw); go_simp; try with_reducible rfl); try simp only [Act.put, zz1, zz2, zz3, zz4, zz5, zz6]
    refine tkH 6 ?_ rfl ?_ hHeld ?_; rotate_left; (intro w hSw; (try dsimp only at hSw); go_simp; try with_reducible rfl); try simp only [Act.put, zz1, zz2, zz3, zz4, zz5, zz6]
    refine tkH 7 ?_ rfl ?_ hHeld ?_; rotate_left; (intro w hSw; (try dsimp only at hSw); go_simp; try with_reducible rfl); try simp only [Act.put, zz1, zz2, zz3, zz4, zz5, zz6]
    refine tkH 8 ?_ rfl ?_ hHeld ?_; rotate_left; (intro w hSw; (try dsimp only at hSw); go_simp; try with_reducible rfl); try simp only [Act.put, zz1, zz2, zz3, zz4, zz5, zz6]
    refine tkH 9 ?_ rfl ?_ hHeld ?_; rotate_left; (intro w hSw; (try dsimp only at hSw); go_simp; try with_reducible rfl); try simp only [Act.put, zz1, zz2, zz3, zz4, zz5, zz6]
    refine tkH 10 ?_ rfl ?_ hHeld ?_; rotate_left; (intro w hSw; (try dsimp only at hSw); go_simp; try with_reducible rfl); try simp only [Act.put, zz1, zz2, zz3, zz4, zz5, zz6]
    refine tkH 12 ?_ rfl ?_ hHeld ?_; rotate_left; (intro w hSw; (try dsimp only at hSw); go_simp; try with_reducible rfl); try simp only [Act.put, zz1, zz2, zz3, zz4, zz5, zz6]
    refine wpAnyH_ready (rs := [11]) (by kernel_rfl) (by simp) ?_
    refine AllReadyH.cons (o := _) rfl (fun K0 hK0 => ?_) AllReadyH.nil
    go_simp
    refine (CL6.out _ (by go_split_ands; assumption)).mono ?_
    rintro e9 w9 ⟨rfl, hb9⟩
    go_wp2_with fail
    have HB9 := Lib.hid hb9
    refine hK0.out _ _ (KH.out _ hb9) (fun hHeld => ?_)
    clear hK0 K0
    try simp only [Act.put, zz1, zz2, zz3, zz4, zz5, zz6]
    refine wpAnyH_ready (rs := [13]) (by kernel_rfl) (by simp) ?_
    refine AllReadyH.cons (o := _) rfl (fun K0 hK0 => ?_) AllReadyH.nil
    go_simp
    refine (CL2.out _ (by go_split_ands; assumption)).mono ?_
    rintro e9 w9 ⟨rfl, hb9⟩
    go_wp2_with fail
    have HB9 := Lib.hid hb9
    refine hK0.out _ _ (KH.out _ hb9) (fun hHeld => ?_)
    clear hK0 K0
    try simp only [Act.put, zz1, zz2, zz3, zz4, zz5, zz6]
    refine tkH 14 ?_ rfl ?_ hHeld ?_; rotate_left; (intro w hSw; (try dsimp only at hSw); go_simp; try with_reducible rfl); try simp only [Act.put, zz1, zz2, zz3, zz4, zz5, zz6]
    refine tkH 15 ?_ rfl ?_ hHeld ?_; rotate_left; (intro w hSw; (try dsimp only at hSw); go_simp; try with_reducible rfl); try simp only [Act.put, zz1, zz2, zz3, zz4, zz5, zz6]
    refine tkH 16 ?_ rfl ?_ hHeld ?_; rotate_left; (intro w hSw; (try dsimp only at hSw); go_simp; try with_reducible rfl); try simp only [Act.put, zz1, zz2, zz3, zz4, zz5, zz6]
    refine wpAnyH_done (by kernel_rfl) ?_ _
    go_wp2
    go_ret
    exact ⟨by rw [E3.out]; first | done | rw [y] | simp [y], FIN.out _ HB9.out⟩
  · have y : (db == (a6 : Int) - (a2 : Int)) = false := by simp [e0]
    have E3 : Hid (bal9 mm x n (ee : Int) = false) := by show _ = _; rw [E.out]; simp [e0]
    clear e0
    refine wp_region_held_drew (S := fun W => (W.cell? ⟨ga, 0, none⟩ = some (.pointer (some ⟨h, 0, none⟩)) ∧ W.cell? ⟨w.heap.size, 0, none⟩ = some (.int .i64 (ee : Int)) ∧ W.cell? ⟨h, 3, none⟩ = some (.slice (some ⟨ba, oa, none⟩) 4 p'.c3) ∧ W.cell? ⟨h, 6, none⟩ = some (.slice A4 n c4) ∧ W.cell? ⟨ba, oa + ee * 4 + 3, none⟩ = some (.int .i64 db)) ∧ Below w4.heap.size w4 W) (by kernel_rfl) (KH.out _ B9.out.drew) (fun hHeld => ?_)
    obtain ⟨v0, hv0⟩ : ∃ v0, v0 = wq.drew := ⟨_, rfl⟩
    have BL0 : Hid (Below wq.heap.size wq v0) := by rw [hv0]; exact Below.drew (Below.refl _ _)
    rw [← hv0] at hHeld ⊢
    clear hv0
    refine tkH 0 ?_ rfl ?_ hHeld ?_; rotate_left; (intro w hSw; (try dsimp only at hSw); go_simp; try with_reducible rfl); try simp only [Act.put, zz1, zz2, zz3, zz4, zz5, zz6]
    refine tkH 1 ?_ rfl ?_ hHeld ?_; rotate_left; (intro w hSw; (try dsimp only at hSw); go_simp; try with_reducible rfl); try simp only [Act.put, zz1, zz2, zz3, zz4, zz5, zz6]
    refine tkH 2 ?_ rfl ?_ hHeld ?_; rotate_left; (intro w hSw; (try dsimp only at hSw); go_simp; try with_reducible rfl); try simp only [Act.put, zz1, zz2, zz3, zz4, zz5, zz6]
    refine tkH 3 ?_ rfl ?_ hHeld ?_; rotate_left; (intro w hSw; (try dsimp only at hSw); go_simp; try with_reducible rfl); try simp only [Act.put, zz1, zz2, zz3, zz4, zz5, zz6]
    refine tkH 4 ?_ rfl ?_ hHeld ?_; rotate_left; (intro w hSw; (try dsimp only at hSw); go_simp; try with_reducible rfl); try simp only [Act.put, zz1, zz2, zz3, zz4, zz5, zz6]
    refine tkH 5 ?_ rfl ?_ hHeld ?_; rotate_left; (intro w hSw; (try dsimp only at hSw); go_simp; try with_reducible rfl); try simp only [Act.put, zz1, zz2, zz3, zz4, zz5, zz6]
    refine tkH 6 ?_ rfl ?_ hHeld ?_; rotate_left; (intro w hSw; (try dsimp only at hSw); go_simp; try with_reducible rfl); try simp only [Act.put, zz1, zz2, zz3, zz4, zz5, zz6]
    refine tkH 7 ?_ rfl ?_ hHeld ?_; rotate_left; (intro w hSw; (try dsimp only at hSw); go_simp; try with_reducible rfl); try simp only [Act.put, zz1, zz2, zz3, zz4, zz5, zz6]
    refine tkH 8 ?_ rfl ?_ hHeld ?_; rotate_left; (intro w hSw; (try dsimp only at hSw); go_simp; try with_reducible rfl); try simp only [Act.put, zz1, zz2, zz3, zz4, zz5, zz6]
    refine tkH 9 ?_ rfl ?_ hHeld ?_; rotate_left; (intro w hSw; (try dsimp only at hSw); go_simp; try with_reducible rfl); try simp only [Act.put, zz1, zz2, zz3, zz4, zz5, zz6]
    refine tkH 10 ?_ rfl ?_ hHeld ?_; rotate_left; (intro w hSw; (try dsimp only at hSw); go_simp; try with_reducible rfl); try simp only [Act.put, zz1, zz2, zz3, zz4, zz5, zz6]
    refine tkH 12 ?_ rfl ?_ hHeld ?_; rotate_left; (intro w hSw; (try dsimp only at hSw); go_simp; try with_reducible rfl); try simp only [Act.put, zz1, zz2, zz3, zz4, zz5, zz6]
    refine wpAnyH_ready (rs := [11]) (by kernel_rfl) (by simp) ?_
    refine AllReadyH.cons (o := _) rfl (fun K0 hK0 => ?_) AllReadyH.nil
    go_simp
    refine (CL6.out _ (by go_split_ands; assumption)).mono ?_
    rintro e9 w9 ⟨rfl, hb9⟩
    go_wp2_with fail
    have HB9 := Lib.hid hb9
    refine hK0.out _ _ (KH.out _ hb9) (fun hHeld => ?_)
    clear hK0 K0
    try simp only [Act.put, zz1, zz2, zz3, zz4, zz5, zz6]
    refine wpAnyH_ready (rs := [13]) (by kernel_rfl) (by simp) ?_
    refine AllReadyH.cons (o := _) rfl (fun K0 hK0 => ?_) AllReadyH.nil
    go_simp
    refine (CL2.out _ (by go_split_ands; assumption)).mono ?_
    rintro e9 w9 ⟨rfl, hb9⟩
    go_wp2_with fail
    have HB9 := Lib.hid hb9
    refine hK0.out _ _ (KH.out _ hb9) (fun hHeld => ?_)
    clear hK0 K0
    try simp only [Act.put, zz1, zz2, zz3, zz4, zz5, zz6]
    refine tkH 14 ?_ rfl ?_ hHeld ?_; rotate_left; (intro w hSw; (try dsimp only at hSw); go_simp; try with_reducible rfl); try simp only [Act.put, zz1, zz2, zz3, zz4, zz5, zz6]
    refine tkH 15 ?_ rfl ?_ hHeld ?_; rotate_left; (intro w hSw; (try dsimp only at hSw); go_simp; try with_reducible rfl); try simp only [Act.put, zz1, zz2, zz3, zz4, zz5, zz6]
    refine tkH 16 ?_ rfl ?_ hHeld ?_; rotate_left; (intro w hSw; (try dsimp only at hSw); go_simp; try with_reducible rfl); try simp only [Act.put, zz1, zz2, zz3, zz4, zz5, zz6]
    refine wpAnyH_done (by kernel_rfl) ?_ _
    go_wp2
    go_ret
    exact ⟨by rw [E3.out]; first | done | rw [y] | simp [y], FIN.out _ HB9.out⟩

end Go.Proofs.YtckapndpefkcgaaGreat
