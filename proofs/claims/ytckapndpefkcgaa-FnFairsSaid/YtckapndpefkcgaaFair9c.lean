/-
  IsFair, the program's: its search, and the whole. No conditions beyond that the schedule can be read.
-/
import Derived.Test.YtckapndpefkcgaaTk
import Derived.Test.YtckapndpefkcgaaFair9b
set_option maxHeartbeats 1000000
namespace Go.Proofs.Ytckapndpefkcgaa
open List renaming getElem_toArray → zz1, getElem_cons_succ → zz2, getElem_cons_zero → zz3, setIfInBounds_toArray → zz4, set_cons_zero → zz5, set_cons_succ → zz6
open Go.RowKit
set_option maxRecDepth 100000

def fnd9 (f : Nat → Bool) (n : Nat) (r : Int) : Prop := (r = -1 ∧ anyf f n = false) ∨ (0 ≤ r ∧ anyf f n = true)
set_option maxHeartbeats 4000000 in
theorem indexFar_any {b : Int} {xs : List R3} {t : Int} {n : Nat} {ids hs : List Int} (FX : FF9 b xs t n ids hs) (I : Option Addr) (m d : Nat) (lo hi gp ga gn gm : Nat) (all : Int) (ha : 0 ≤ all ∧ all ≤ 50) (A : Option Addr) (c : Nat) (lo' hi' : Nat) (W : World) (hm : ids.length = m) (hI : Sl W lo hi I m (fun k => .int .i64 (gi ids k))) (hhi : hi ≤ W.heap.size) (hA : Sl W lo' hi' A (n * 3) (fun k => .int .i64 (gi hs k))) (hhi' : hi' ≤ W.heap.size)
    (hc : ∀ V, Below W.heap.size W V → V.cell? ⟨gp, 1, none⟩ = some (.slice I m d) ∧ V.cell? ⟨ga, 0, none⟩ = some (.int .i64 all) ∧ V.cell? ⟨gn, 0, none⟩ = some (.int .i64 t) ∧ V.cell? ⟨gm, 0, none⟩ = some (.int .i64 (n : Int))) :
    Calls Try.prog 108 #[.slice A n c, .func (.func 78) #[] #[.pointer (some ⟨gp, 0, none⟩), .pointer (some ⟨ga, 0, none⟩), .pointer (some ⟨gn, 0, none⟩), .pointer (some ⟨gm, 0, none⟩)]] W fun e w' => ∃ r, fnd9 (farAt ids hs t all n) n r ∧ e = .returned (.int .i64 r) ∧ Below W.heap.size W w' := by
  have HFX := Lib.hid FX
  have CLO : Hid (∀ V, Below W.heap.size W V → ∀ k, k < n → Calls Try.prog 78 #[.agg #[.int .i64 (gi hs (k * 3)), .int .i64 (gi hs (k * 3 + 1)), .int .i64 (gi hs (k * 3 + 2))], .pointer (some ⟨gp, 0, none⟩), .pointer (some ⟨ga, 0, none⟩), .pointer (some ⟨gn, 0, none⟩), .pointer (some ⟨gm, 0, none⟩)] V fun e w' => e = .returned (.bool (farAt ids hs t all n k)) ∧ Below V.heap.size V w') := fun V hV k hk =>
    isFair1_any FX I m d lo hi gp ga gn gm all (gi hs (k * 3)) (gi hs (k * 3 + 1)) (gi hs (k * 3 + 2)) ha (FX.tk k hk) V hm (hI.below hV hhi) (Nat.le_trans hhi hV.size) (fun V2 hV2 => hc V2 (hV.trans (hV2.mono hV.size)))
  have H : Hid (∀ V, Below W.heap.size W V → Sl V lo' hi' A (n * 3) (fun k => .int .i64 (gi hs k))) := fun V hV => hA.below hV hhi'
  have n5 := FX.n5
  clear FX hI hA hc hhi hhi' hm
  go_enter Try.func108, Try.ntmps108
  go_wp2_with fail
  go_loopw [8] (fun i wr => ∃ k : Nat, k ≤ n ∧ i = .int .i64 (k : Int) ∧ anyf (farAt ids hs t all n) k = false ∧ Below W.heap.size W wr) (fun i _ => n - (intOf i).toNat)
  case atStart => exact ⟨0, Nat.zero_le _, rfl, rfl, Below.refl _ _⟩
  case round =>
    obtain ⟨k, hk, rfl, hno, hb⟩ := hrel
    have NO := Lib.hid hno
    have BR := Lib.hid hb
    clear hno
    by_cases hlt : k < n
    · obtain ⟨bb, off, rfl, h1, h2, hcc⟩ := (H.out wr hb).at_ (show k * 3 < n * 3 by omega)
      have c0 : wr.cell? ⟨bb, off + k * 3, none⟩ = some (.int .i64 (gi hs (k * 3))) := hcc (k * 3) (by omega)
      have c1 : wr.cell? ⟨bb, off + k * 3 + 1, none⟩ = some (.int .i64 (gi hs (k * 3 + 1))) := hcc (k * 3 + 1) (by omega)
      have c2 : wr.cell? ⟨bb, off + k * 3 + 2, none⟩ = some (.int .i64 (gi hs (k * 3 + 2))) := hcc (k * 3 + 2) (by omega)
      have CL := Lib.hid (CLO.out wr hb k hlt)
      have z0 : (0 : Int) ≤ (k : Int) := by omega
      have z1 : (k : Int) < (n : Int) := by omega
      have AN : Hid (anyf (farAt ids hs t all n) (k + 1) = (anyf (farAt ids hs t all n) k || farAt ids hs t all n k)) := rfl
      clear hcc hb
      rcases hf : farAt ids hs t all n k with _ | _
      · have E : Hid (anyf (farAt ids hs t all n) (k + 1) = false) := by show _ = _; rw [AN.out, NO.out, hf]; rfl
        rw [hf] at CL
        clear hf
        go_wp2_with fail
        refine CL.out.mono ?_
        rintro e w1 ⟨rfl, hb⟩
        have HB1 := Lib.hid (BR.out.trans (hb.mono BR.out.size))
        clear hb
        go_wp2
        go_roundw
        case rel => exact ⟨k + 1, by omega, by go_num, E.out, HB1.out⟩
        case measure => simp [intOf]; omega
      · have E : Hid (anyf (farAt ids hs t all n) n = true) := anyf_true hf hlt
        rw [hf] at CL
        clear hf
        go_wp2_with fail
        refine CL.out.mono ?_
        rintro e w1 ⟨rfl, hb⟩
        have HB1 := Lib.hid (BR.out.trans (hb.mono BR.out.size))
        clear hb
        go_wp2
        go_ret
        exact ⟨_, .inr ⟨by omega, E.out⟩, rfl, HB1.out⟩
    · obtain rfl : k = n := by omega
      clear hb
      go_wp2
      go_ret
      exact ⟨_, .inl ⟨rfl, NO.out⟩, rfl, BR.out⟩
theorem containsFar_any {b : Int} {xs : List R3} {t : Int} {n : Nat} {ids hs : List Int} (FX : FF9 b xs t n ids hs) (I : Option Addr) (m d : Nat) (lo hi gp ga gn gm : Nat) (all : Int) (ha : 0 ≤ all ∧ all ≤ 50) (A : Option Addr) (c : Nat) (lo' hi' : Nat) (W : World) (hm : ids.length = m) (hI : Sl W lo hi I m (fun k => .int .i64 (gi ids k))) (hhi : hi ≤ W.heap.size) (hA : Sl W lo' hi' A (n * 3) (fun k => .int .i64 (gi hs k))) (hhi' : hi' ≤ W.heap.size)
    (hc : ∀ V, Below W.heap.size W V → V.cell? ⟨gp, 1, none⟩ = some (.slice I m d) ∧ V.cell? ⟨ga, 0, none⟩ = some (.int .i64 all) ∧ V.cell? ⟨gn, 0, none⟩ = some (.int .i64 t) ∧ V.cell? ⟨gm, 0, none⟩ = some (.int .i64 (n : Int))) :
    Calls Try.prog 80 #[.slice A n c, .func (.func 78) #[] #[.pointer (some ⟨gp, 0, none⟩), .pointer (some ⟨ga, 0, none⟩), .pointer (some ⟨gn, 0, none⟩), .pointer (some ⟨gm, 0, none⟩)]] W fun e w' => e = .returned (.bool (anyf (farAt ids hs t all n) n)) ∧ Below W.heap.size W w' := by
  have IX := Lib.hid (indexFar_any FX I m d lo hi gp ga gn gm all ha A c lo' hi' W hm hI hhi hA hhi' hc)
  clear FX hI hA hc hhi hhi' hm
  go_enter Try.func80, Try.ntmps80
  go_wp2_with fail
  refine IX.out.mono ?_
  rintro e w1 ⟨r, hr, rfl, hb⟩
  have HB1 := Lib.hid hb
  clear hb IX
  rcases hr with ⟨rfl, hn⟩ | ⟨h0, hn⟩
  · have E := Lib.hid hn
    clear hn
    go_wp2
    go_ret
    exact ⟨by rw [E.out]; first | done | rfl, HB1.out⟩
  · have E := Lib.hid hn
    have y : decide (r ≥ 0) = true := decide_eq_true h0
    clear hn
    go_wp2
    go_ret
    exact ⟨ret_bool (by rw [E.out]; first | done | exact y | simp [h0]), HB1.out⟩

set_option maxHeartbeats 16000000 in
theorem implIsFair_any (lo hi : Nat) (AA : Option Addr) (c : Nat) (b : Int) (xs : List R3) (t : Int) (w : World) (hx : xs.length ≤ 1048576) (h : RS w lo hi AA xs) :
    Calls Try.prog 28 #[.agg #[.int .i64 b, .slice AA xs.length c], .int .i64 t] w fun e w' => e = .returned (.bool (fair9 b xs t)) ∧ Below w.heap.size w w' := by
  have HL := Lib.hid h.lt
  have hp := fun W (hW : Below w.heap.size w W) => implPicksOf_any lo (min hi w.heap.size) AA c b xs t W (by omega) (HL.out.below hW (Nat.min_le_right _ _))
  have FFX := Lib.hid (@ff9_of b xs t)
  have FN : Hid ((picks5 b xs t).1 ≠ 0 → fair9 b xs t = false) := fun hh => by unfold fair9; rw [if_pos hh]
  obtain ⟨r, hr⟩ : ∃ r, r = picks5 b xs t := ⟨_, rfl⟩
  rw [← hr] at FFX FN hp
  have HP := Lib.hid hp
  have H : Hid (∀ W, Below w.heap.size w W → Sl W lo (min hi w.heap.size) AA (xs.length * 3) (fun k => .int .i64 (gi (fl xs) k))) := fun W hW => HL.out.below hW (Nat.min_le_right _ _)
  obtain ⟨hs, hhs⟩ : ∃ hs, hs = fl xs := ⟨_, rfl⟩
  rw [← hhs] at H FFX
  obtain ⟨n, hn⟩ : ∃ n, n = xs.length := ⟨_, rfl⟩
  rw [← hn] at H FFX HP ⊢
  obtain ⟨q, ids, b2, ys⟩ := r
  have FN : Hid (q ≠ 0 → fair9 b xs t = false) := FN.out
  have FFX : Hid (q = 0 → FF9 b xs t n ids hs) := FFX.out
  obtain ⟨w1, hw1⟩ : ∃ w1, w1 = (w.alloc (.cells #[.int .i64 b, .slice AA n c] 43)).alloc (.cells #[.int .i64 t] 2) := ⟨_, rfl⟩
  have K1 : Hid (w1.heap[w.heap.size]? = some (.cells #[.int .i64 b, .slice AA n c] 43 (0, 0))) := by show _ = _; rw [hw1]; exact heap_alloc2_old w _ _
  have KT : Hid (w1.heap[w.heap.size + 1]? = some (.cells #[.int .i64 t] 2 (0, 0))) := by show _ = _; rw [hw1]; exact heap_alloc2_new w _ _
  have B1 : Hid (Below w.heap.size w w1) := by rw [hw1]; exact (below_new w _).alloc (by simp) _
  have Z1 : Hid (w1.heap.size = w.heap.size + 2) := by show _ = _; rw [hw1]; simp
  have P1 := Lib.hid (HP.out w1 B1.out)
  have k0 := cell_of_row w1 _ 0 _ _ _ K1.out; have k1 := cell_of_row w1 _ 1 _ _ _ K1.out; have kt := cell_of_row w1 _ 0 _ _ _ KT.out
  simp at k0 k1 kt
  have HW1 := Lib.hid hw1
  clear h hx hr hhs hn hw1 hp HP HL
  go_enter Try.func28, Try.ntmps28
  go_upto_region 1 with (fail)
  rw [← HW1.out]
  clear HW1
  go_wp2_with fail
  refine P1.out.mono ?_
  rintro e w2 ⟨I, d, A2, c2, rfl, hoi, _, hb⟩
  dsimp only
  have hoi : OR 2 1 w2 w1.heap.size I ids.length d ids := hoi
  obtain ⟨m, hm⟩ : ∃ m, m = ids.length := ⟨_, rfl⟩
  rw [← hm] at hoi ⊢
  have HM := Lib.hid hm
  obtain ⟨n2, hn2⟩ : ∃ n2, n2 = ys.length := ⟨_, rfl⟩
  rw [← hn2]
  obtain ⟨w3, hw3⟩ : ∃ w3, w3 = w2.alloc (.cells #[.int .i64 q, .slice I m d, .int .i64 b2, .slice A2 n2 c2] 48) := ⟨_, rfl⟩
  obtain ⟨gp, hgp⟩ : ∃ gp, gp = w2.heap.size := ⟨_, rfl⟩
  have K3 : Hid (w3.heap[gp]? = some (.cells #[.int .i64 q, .slice I m d, .int .i64 b2, .slice A2 n2 c2] 48 (0, 0))) := by show _ = _; rw [hw3, hgp]; exact heap_alloc_new w2 _
  have BN3 : Below w2.heap.size w2 w3 := by rw [hw3]; exact below_new w2 _
  have B13 := Lib.hid (hb.trans (BN3.mono hb.size))
  have B3 := Lib.hid (B1.out.trans (B13.out.mono (by have := Z1.out; omega)))
  have SI : Hid (Sl w3 w1.heap.size w2.heap.size I m (fun k => .int .i64 (gi ids k))) := by
    have := OR.sl0 hoi
    rw [Nat.mul_one] at this
    exact this.below BN3 (Nat.le_refl _)
  have Z3 : Hid (w2.heap.size ≤ w3.heap.size) := BN3.size
  have K1' := Lib.hid ((B13.out.block w.heap.size (by have := Z1.out; omega)).trans K1.out)
  have KT' := Lib.hid ((B13.out.block (w.heap.size + 1) (by have := Z1.out; omega)).trans KT.out)
  have HW3 := Lib.hid hw3; have HGP := Lib.hid hgp
  clear hm hn2 hw3 hgp BN3 hoi hb k0 k1 kt P1 K1 KT
  go_upto_region 2 with (fail)
  rw [← HW3.out, ← HGP.out]
  clear HW3 HGP
  have k0 := cell_of_row w3 _ 0 _ _ _ K3.out
  simp at k0
  by_cases h0 : q = 0
  case neg =>
    have y : (q != 0) = true := by simp [h0]
    have E := Lib.hid (FN.out h0)
    clear h0
    go_wp2
    go_ret
    exact ⟨by rw [E.out]; first | done | rfl, B3.out⟩
  have FX := Lib.hid (FFX.out h0)
  subst h0
  clear FN FFX
  have hn5 : n ≤ 5 := FX.out.n5
  have AL := tka_le n fun i hi => FX.out.tk i hi
  have AL : 0 ≤ tka hs n ∧ tka hs n ≤ 50 := by omega
  have EQ := Lib.hid FX.out.eq
  have TO : Hid (∀ W, Below w3.heap.size w3 W → Calls Try.prog 77 #[.slice AA n c] W fun e w' => e = .returned (.int .i64 (tka hs n)) ∧ Below W.heap.size W w') := fun W hW =>
    ticketsOf_any lo (min hi w.heap.size) AA n c hs W hn5 FX.out.tk (H.out W (B3.out.trans (hW.mono B3.out.size)))
  obtain ⟨all, hall⟩ : ∃ all, all = tka hs n := ⟨_, rfl⟩
  rw [← hall] at AL EQ TO
  have HAL := Lib.hid AL
  have KH : Hid (∀ W, Below w3.heap.size w3 W → W.cell? ⟨w.heap.size, 1, none⟩ = some (.slice AA n c) ∧ Below w3.heap.size w3 W) := fun W hW =>
    ⟨cell_of_row W _ 1 _ _ _ ((hW.block w.heap.size (Array.getElem?_eq_some_iff.1 K1'.out).1).trans K1'.out), hW⟩
  clear hall AL
  go_upto_region 4 with (fail)
  clear k0
  go_cut [6, 7] from 9 (fun x6 x7 wx => ∃ ga gm, x6 = .pointer (some ⟨ga, 0, none⟩) ∧ x7 = .pointer (some ⟨gm, 0, none⟩) ∧ wx.heap[ga]? = some (.cells #[.int .i64 all] 2 (0, 0)) ∧ wx.heap[gm]? = some (.cells #[.int .i64 (n : Int)] 2 (0, 0)) ∧ Below w3.heap.size w3 wx)
  case first => as_aux_lemma =>
      refine wp_region_held_drew (S := fun W => W.cell? ⟨w.heap.size, 1, none⟩ = some (.slice AA n c) ∧ Below w3.heap.size w3 W) (by kernel_rfl) (KH.out _ (Below.drew (Below.refl _ _))) (fun hHeld => ?_)
      obtain ⟨v0, hv0⟩ : ∃ v0, v0 = w3.drew := ⟨_, rfl⟩
      have BL0 : Hid (Below w3.heap.size w3 v0) := by rw [hv0]; exact Below.drew (Below.refl _ _)
      rw [← hv0] at hHeld ⊢
      clear hv0
      refine tkH 0 ?_ rfl ?_ hHeld ?_; rotate_left; (intro w hSw; (try dsimp only at hSw); go_simp; try with_reducible rfl); try simp only [Act.put, zz1, zz2, zz3, zz4, zz5, zz6]
      refine tkH 1 ?_ rfl ?_ hHeld ?_; rotate_left; (intro w hSw; (try dsimp only at hSw); go_simp; try with_reducible rfl); try simp only [Act.put, zz1, zz2, zz3, zz4, zz5, zz6]
      refine tkH 3 ?_ rfl ?_ hHeld ?_; rotate_left; (intro w hSw; (try dsimp only at hSw); go_simp; try with_reducible rfl); try simp only [Act.put, zz1, zz2, zz3, zz4, zz5, zz6]
      refine tkH 4 ?_ rfl ?_ hHeld ?_; rotate_left; (intro w hSw; (try dsimp only at hSw); go_simp; try with_reducible rfl); try simp only [Act.put, zz1, zz2, zz3, zz4, zz5, zz6]
      refine tkH 5 ?_ rfl ?_ hHeld ?_; rotate_left; (intro w hSw; (try dsimp only at hSw); go_simp; try with_reducible rfl); try simp only [Act.put, zz1, zz2, zz3, zz4, zz5, zz6]
      have BF := BL0
      refine wpAnyH_ready (rs := [2, 6, 7]) (by kernel_rfl) (by simp) ?_
      refine AllReadyH.cons (o := _) rfl (fun K0 hK0 => ?_) (AllReadyH.cons (o := _) rfl (fun K0 hK0 => ?_) (AllReadyH.cons (o := _) rfl (fun K0 hK0 => ?_) (AllReadyH.nil)))
      · go_simp
        refine (TO.out v0 BF.out).mono ?_
        rintro e9 v0c ⟨rfl, hb⟩
        go_wp2_with fail
        have BF := Lib.hid (BF.out.trans (hb.mono BF.out.size))
        clear hb
        refine hK0.out _ _ (KH.out _ BF.out) (fun hHeld => ?_)
        clear hK0 K0
        try simp only [Act.put, zz1, zz2, zz3, zz4, zz5, zz6]
        refine wpAnyH_ready (rs := [6, 7]) (by kernel_rfl) (by simp) ?_
        refine AllReadyH.cons (o := _) rfl (fun K0 hK0 => ?_) (AllReadyH.cons (o := _) rfl (fun K0 hK0 => ?_) (AllReadyH.nil))
        · go_simp
          obtain ⟨va6c, hy⟩ : ∃ y, y = v0c.alloc (.cells #[.int .i64 0] 2) := ⟨_, rfl⟩
          obtain ⟨a6, ha⟩ : ∃ a, a = v0c.heap.size := ⟨_, rfl⟩
          rw [← hy, ← ha]
          have BN : Below v0c.heap.size v0c va6c := by rw [hy]; exact below_new _ _
          have A6 : Hid (va6c.heap[a6]? = some (.cells #[.int .i64 0] 2 (0, 0)) ∧ w3.heap.size ≤ a6) := ⟨by rw [hy, ha]; exact heap_alloc_new _ _, by rw [ha]; exact BF.out.size⟩
          have BF := Lib.hid (BF.out.trans (BN.mono BF.out.size))
          clear BN hy ha
          refine hK0.out _ _ (KH.out _ BF.out) (fun hHeld => ?_)
          clear hK0 K0
          try simp only [Act.put, zz1, zz2, zz3, zz4, zz5, zz6]
          refine wpAnyH_ready (rs := [7]) (by kernel_rfl) (by simp) ?_
          refine AllReadyH.cons (o := _) rfl (fun K0 hK0 => ?_) (AllReadyH.nil)
          · go_simp
            obtain ⟨v6a7c, hy⟩ : ∃ y, y = va6c.alloc (.cells #[.int .i64 0] 2) := ⟨_, rfl⟩
            obtain ⟨a7, ha⟩ : ∃ a, a = va6c.heap.size := ⟨_, rfl⟩
            rw [← hy, ← ha]
            have BN : Below va6c.heap.size va6c v6a7c := by rw [hy]; exact below_new _ _
            have A7 : Hid (v6a7c.heap[a7]? = some (.cells #[.int .i64 0] 2 (0, 0)) ∧ w3.heap.size ≤ a7) := ⟨by rw [hy, ha]; exact heap_alloc_new _ _, by rw [ha]; exact BF.out.size⟩
            have NE : Hid (a6 ≠ a7) := by have := (Array.getElem?_eq_some_iff.1 A6.out.1).1; show a6 ≠ a7; omega
            have A6 := Lib.hid (And.intro ((BN.block a6 (Array.getElem?_eq_some_iff.1 A6.out.1).1).trans A6.out.1) A6.out.2)
            have BF := Lib.hid (BF.out.trans (BN.mono BF.out.size))
            clear BN hy ha
            refine hK0.out _ _ (KH.out _ BF.out) (fun hHeld => ?_)
            clear hK0 K0
            try simp only [Act.put, zz1, zz2, zz3, zz4, zz5, zz6]
            have A6k := A6.out; have A7k := A7.out
            have x6 := cell_of_row v6a7c _ 0 _ _ _ A6k.1; have f6 := frozen_of_row v6a7c _ 0 _ _ A6k.1
            simp at x6
            refine wpAnyH_ready (rs := [8]) (by kernel_rfl) (by simp) ?_
            refine AllReadyH.cons (o := _) rfl (fun K0 hK0 => ?_) AllReadyH.nil
            go_simp
            refine hK0.out _ _ (KH.out _ (BF.out.setCell (p := ⟨a6, 0, none⟩) A6k.2 _)) (fun hHeld => ?_)
            clear hK0 K0 x6 f6
            try simp only [Act.put, zz1, zz2, zz3, zz4, zz5, zz6]
            have X7 : (v6a7c.setCell ⟨a6, 0, none⟩ (.int .i64 all)).heap[a7]? = some (.cells #[.int .i64 0] 2 (0, 0)) := (Below.heap_setCell _ ⟨a6, 0, none⟩ _ _ NE.out.symm).trans A7k.1
            have x7 := cell_of_row _ _ 0 _ _ _ X7; have f7 := frozen_of_row _ _ 0 _ _ X7
            simp at x7
            refine wpAnyH_ready (rs := [9]) (by kernel_rfl) (by simp) ?_
            refine AllReadyH.cons (o := _) rfl (fun K0 hK0 => ?_) AllReadyH.nil
            go_simp
            refine hK0.out _ _ (KH.out _ ((BF.out.setCell (p := ⟨a6, 0, none⟩) A6k.2 _).setCell (p := ⟨a7, 0, none⟩) A7k.2 _)) (fun hHeld => ?_)
            clear hK0 K0 x7 f7
            try simp only [Act.put, zz1, zz2, zz3, zz4, zz5, zz6]
            refine wpAnyH_done (by kernel_rfl) ?_ _
            go_wp2_with fail
            go_meet
            exact ⟨a6, a7, rfl, rfl, (Below.heap_setCell _ ⟨a7, 0, none⟩ _ _ NE.out).trans (heap_setCell_same _ _ 0 _ _ _ A6k.1), heap_setCell_same _ _ 0 _ _ _ X7, (BF.out.setCell (p := ⟨a6, 0, none⟩) A6k.2 _).setCell (p := ⟨a7, 0, none⟩) A7k.2 _⟩
        · go_simp
          obtain ⟨va7c, hy⟩ : ∃ y, y = v0c.alloc (.cells #[.int .i64 0] 2) := ⟨_, rfl⟩
          obtain ⟨a7, ha⟩ : ∃ a, a = v0c.heap.size := ⟨_, rfl⟩
          rw [← hy, ← ha]
          have BN : Below v0c.heap.size v0c va7c := by rw [hy]; exact below_new _ _
          have A7 : Hid (va7c.heap[a7]? = some (.cells #[.int .i64 0] 2 (0, 0)) ∧ w3.heap.size ≤ a7) := ⟨by rw [hy, ha]; exact heap_alloc_new _ _, by rw [ha]; exact BF.out.size⟩
          have BF := Lib.hid (BF.out.trans (BN.mono BF.out.size))
          clear BN hy ha
          refine hK0.out _ _ (KH.out _ BF.out) (fun hHeld => ?_)
          clear hK0 K0
          try simp only [Act.put, zz1, zz2, zz3, zz4, zz5, zz6]
          refine wpAnyH_ready (rs := [6]) (by kernel_rfl) (by simp) ?_
          refine AllReadyH.cons (o := _) rfl (fun K0 hK0 => ?_) (AllReadyH.nil)
          · go_simp
            obtain ⟨v7a6c, hy⟩ : ∃ y, y = va7c.alloc (.cells #[.int .i64 0] 2) := ⟨_, rfl⟩
            obtain ⟨a6, ha⟩ : ∃ a, a = va7c.heap.size := ⟨_, rfl⟩
            rw [← hy, ← ha]
            have BN : Below va7c.heap.size va7c v7a6c := by rw [hy]; exact below_new _ _
            have A6 : Hid (v7a6c.heap[a6]? = some (.cells #[.int .i64 0] 2 (0, 0)) ∧ w3.heap.size ≤ a6) := ⟨by rw [hy, ha]; exact heap_alloc_new _ _, by rw [ha]; exact BF.out.size⟩
            have NE : Hid (a6 ≠ a7) := by have := (Array.getElem?_eq_some_iff.1 A7.out.1).1; show a6 ≠ a7; omega
            have A7 := Lib.hid (And.intro ((BN.block a7 (Array.getElem?_eq_some_iff.1 A7.out.1).1).trans A7.out.1) A7.out.2)
            have BF := Lib.hid (BF.out.trans (BN.mono BF.out.size))
            clear BN hy ha
            refine hK0.out _ _ (KH.out _ BF.out) (fun hHeld => ?_)
            clear hK0 K0
            try simp only [Act.put, zz1, zz2, zz3, zz4, zz5, zz6]
            have A6k := A6.out; have A7k := A7.out
            have x6 := cell_of_row v7a6c _ 0 _ _ _ A6k.1; have f6 := frozen_of_row v7a6c _ 0 _ _ A6k.1
            simp at x6
            refine wpAnyH_ready (rs := [8]) (by kernel_rfl) (by simp) ?_
            refine AllReadyH.cons (o := _) rfl (fun K0 hK0 => ?_) AllReadyH.nil
            go_simp
            refine hK0.out _ _ (KH.out _ (BF.out.setCell (p := ⟨a6, 0, none⟩) A6k.2 _)) (fun hHeld => ?_)
            clear hK0 K0 x6 f6
            try simp only [Act.put, zz1, zz2, zz3, zz4, zz5, zz6]
            have X7 : (v7a6c.setCell ⟨a6, 0, none⟩ (.int .i64 all)).heap[a7]? = some (.cells #[.int .i64 0] 2 (0, 0)) := (Below.heap_setCell _ ⟨a6, 0, none⟩ _ _ NE.out.symm).trans A7k.1
            have x7 := cell_of_row _ _ 0 _ _ _ X7; have f7 := frozen_of_row _ _ 0 _ _ X7
            simp at x7
            refine wpAnyH_ready (rs := [9]) (by kernel_rfl) (by simp) ?_
            refine AllReadyH.cons (o := _) rfl (fun K0 hK0 => ?_) AllReadyH.nil
            go_simp
            refine hK0.out _ _ (KH.out _ ((BF.out.setCell (p := ⟨a6, 0, none⟩) A6k.2 _).setCell (p := ⟨a7, 0, none⟩) A7k.2 _)) (fun hHeld => ?_)
            clear hK0 K0 x7 f7
            try simp only [Act.put, zz1, zz2, zz3, zz4, zz5, zz6]
            refine wpAnyH_done (by kernel_rfl) ?_ _
            go_wp2_with fail
            go_meet
            exact ⟨a6, a7, rfl, rfl, (Below.heap_setCell _ ⟨a7, 0, none⟩ _ _ NE.out).trans (heap_setCell_same _ _ 0 _ _ _ A6k.1), heap_setCell_same _ _ 0 _ _ _ X7, (BF.out.setCell (p := ⟨a6, 0, none⟩) A6k.2 _).setCell (p := ⟨a7, 0, none⟩) A7k.2 _⟩
      · go_simp
        obtain ⟨va6, hy⟩ : ∃ y, y = v0.alloc (.cells #[.int .i64 0] 2) := ⟨_, rfl⟩
        obtain ⟨a6, ha⟩ : ∃ a, a = v0.heap.size := ⟨_, rfl⟩
        rw [← hy, ← ha]
        have BN : Below v0.heap.size v0 va6 := by rw [hy]; exact below_new _ _
        have A6 : Hid (va6.heap[a6]? = some (.cells #[.int .i64 0] 2 (0, 0)) ∧ w3.heap.size ≤ a6) := ⟨by rw [hy, ha]; exact heap_alloc_new _ _, by rw [ha]; exact BF.out.size⟩
        have BF := Lib.hid (BF.out.trans (BN.mono BF.out.size))
        clear BN hy ha
        refine hK0.out _ _ (KH.out _ BF.out) (fun hHeld => ?_)
        clear hK0 K0
        try simp only [Act.put, zz1, zz2, zz3, zz4, zz5, zz6]
        refine wpAnyH_ready (rs := [2, 7]) (by kernel_rfl) (by simp) ?_
        refine AllReadyH.cons (o := _) rfl (fun K0 hK0 => ?_) (AllReadyH.cons (o := _) rfl (fun K0 hK0 => ?_) (AllReadyH.nil))
        · go_simp
          refine (TO.out va6 BF.out).mono ?_
          rintro e9 v1c ⟨rfl, hb⟩
          go_wp2_with fail
          have BF := Lib.hid (BF.out.trans (hb.mono BF.out.size))
          have A6 := Lib.hid (And.intro ((hb.block a6 (Array.getElem?_eq_some_iff.1 A6.out.1).1).trans A6.out.1) A6.out.2)
          clear hb
          refine hK0.out _ _ (KH.out _ BF.out) (fun hHeld => ?_)
          clear hK0 K0
          try simp only [Act.put, zz1, zz2, zz3, zz4, zz5, zz6]
          refine wpAnyH_ready (rs := [7]) (by kernel_rfl) (by simp) ?_
          refine AllReadyH.cons (o := _) rfl (fun K0 hK0 => ?_) (AllReadyH.nil)
          · go_simp
            obtain ⟨v6a7c, hy⟩ : ∃ y, y = v1c.alloc (.cells #[.int .i64 0] 2) := ⟨_, rfl⟩
            obtain ⟨a7, ha⟩ : ∃ a, a = v1c.heap.size := ⟨_, rfl⟩
            rw [← hy, ← ha]
            have BN : Below v1c.heap.size v1c v6a7c := by rw [hy]; exact below_new _ _
            have A7 : Hid (v6a7c.heap[a7]? = some (.cells #[.int .i64 0] 2 (0, 0)) ∧ w3.heap.size ≤ a7) := ⟨by rw [hy, ha]; exact heap_alloc_new _ _, by rw [ha]; exact BF.out.size⟩
            have NE : Hid (a6 ≠ a7) := by have := (Array.getElem?_eq_some_iff.1 A6.out.1).1; show a6 ≠ a7; omega
            have A6 := Lib.hid (And.intro ((BN.block a6 (Array.getElem?_eq_some_iff.1 A6.out.1).1).trans A6.out.1) A6.out.2)
            have BF := Lib.hid (BF.out.trans (BN.mono BF.out.size))
            clear BN hy ha
            refine hK0.out _ _ (KH.out _ BF.out) (fun hHeld => ?_)
            clear hK0 K0
            try simp only [Act.put, zz1, zz2, zz3, zz4, zz5, zz6]
            have A6k := A6.out; have A7k := A7.out
            have x6 := cell_of_row v6a7c _ 0 _ _ _ A6k.1; have f6 := frozen_of_row v6a7c _ 0 _ _ A6k.1
            simp at x6
            refine wpAnyH_ready (rs := [8]) (by kernel_rfl) (by simp) ?_
            refine AllReadyH.cons (o := _) rfl (fun K0 hK0 => ?_) AllReadyH.nil
            go_simp
            refine hK0.out _ _ (KH.out _ (BF.out.setCell (p := ⟨a6, 0, none⟩) A6k.2 _)) (fun hHeld => ?_)
            clear hK0 K0 x6 f6
            try simp only [Act.put, zz1, zz2, zz3, zz4, zz5, zz6]
            have X7 : (v6a7c.setCell ⟨a6, 0, none⟩ (.int .i64 all)).heap[a7]? = some (.cells #[.int .i64 0] 2 (0, 0)) := (Below.heap_setCell _ ⟨a6, 0, none⟩ _ _ NE.out.symm).trans A7k.1
            have x7 := cell_of_row _ _ 0 _ _ _ X7; have f7 := frozen_of_row _ _ 0 _ _ X7
            simp at x7
            refine wpAnyH_ready (rs := [9]) (by kernel_rfl) (by simp) ?_
            refine AllReadyH.cons (o := _) rfl (fun K0 hK0 => ?_) AllReadyH.nil
            go_simp
            refine hK0.out _ _ (KH.out _ ((BF.out.setCell (p := ⟨a6, 0, none⟩) A6k.2 _).setCell (p := ⟨a7, 0, none⟩) A7k.2 _)) (fun hHeld => ?_)
            clear hK0 K0 x7 f7
            try simp only [Act.put, zz1, zz2, zz3, zz4, zz5, zz6]
            refine wpAnyH_done (by kernel_rfl) ?_ _
            go_wp2_with fail
            go_meet
            exact ⟨a6, a7, rfl, rfl, (Below.heap_setCell _ ⟨a7, 0, none⟩ _ _ NE.out).trans (heap_setCell_same _ _ 0 _ _ _ A6k.1), heap_setCell_same _ _ 0 _ _ _ X7, (BF.out.setCell (p := ⟨a6, 0, none⟩) A6k.2 _).setCell (p := ⟨a7, 0, none⟩) A7k.2 _⟩
        · go_simp
          obtain ⟨v6a7, hy⟩ : ∃ y, y = va6.alloc (.cells #[.int .i64 0] 2) := ⟨_, rfl⟩
          obtain ⟨a7, ha⟩ : ∃ a, a = va6.heap.size := ⟨_, rfl⟩
          rw [← hy, ← ha]
          have BN : Below va6.heap.size va6 v6a7 := by rw [hy]; exact below_new _ _
          have A7 : Hid (v6a7.heap[a7]? = some (.cells #[.int .i64 0] 2 (0, 0)) ∧ w3.heap.size ≤ a7) := ⟨by rw [hy, ha]; exact heap_alloc_new _ _, by rw [ha]; exact BF.out.size⟩
          have NE : Hid (a6 ≠ a7) := by have := (Array.getElem?_eq_some_iff.1 A6.out.1).1; show a6 ≠ a7; omega
          have A6 := Lib.hid (And.intro ((BN.block a6 (Array.getElem?_eq_some_iff.1 A6.out.1).1).trans A6.out.1) A6.out.2)
          have BF := Lib.hid (BF.out.trans (BN.mono BF.out.size))
          clear BN hy ha
          refine hK0.out _ _ (KH.out _ BF.out) (fun hHeld => ?_)
          clear hK0 K0
          try simp only [Act.put, zz1, zz2, zz3, zz4, zz5, zz6]
          refine wpAnyH_ready (rs := [2]) (by kernel_rfl) (by simp) ?_
          refine AllReadyH.cons (o := _) rfl (fun K0 hK0 => ?_) (AllReadyH.nil)
          · go_simp
            refine (TO.out v6a7 BF.out).mono ?_
            rintro e9 v2c ⟨rfl, hb⟩
            go_wp2_with fail
            have BF := Lib.hid (BF.out.trans (hb.mono BF.out.size))
            have A6 := Lib.hid (And.intro ((hb.block a6 (Array.getElem?_eq_some_iff.1 A6.out.1).1).trans A6.out.1) A6.out.2)
            have A7 := Lib.hid (And.intro ((hb.block a7 (Array.getElem?_eq_some_iff.1 A7.out.1).1).trans A7.out.1) A7.out.2)
            clear hb
            refine hK0.out _ _ (KH.out _ BF.out) (fun hHeld => ?_)
            clear hK0 K0
            try simp only [Act.put, zz1, zz2, zz3, zz4, zz5, zz6]
            have A6k := A6.out; have A7k := A7.out
            have x6 := cell_of_row v2c _ 0 _ _ _ A6k.1; have f6 := frozen_of_row v2c _ 0 _ _ A6k.1
            simp at x6
            refine wpAnyH_ready (rs := [8]) (by kernel_rfl) (by simp) ?_
            refine AllReadyH.cons (o := _) rfl (fun K0 hK0 => ?_) AllReadyH.nil
            go_simp
            refine hK0.out _ _ (KH.out _ (BF.out.setCell (p := ⟨a6, 0, none⟩) A6k.2 _)) (fun hHeld => ?_)
            clear hK0 K0 x6 f6
            try simp only [Act.put, zz1, zz2, zz3, zz4, zz5, zz6]
            have X7 : (v2c.setCell ⟨a6, 0, none⟩ (.int .i64 all)).heap[a7]? = some (.cells #[.int .i64 0] 2 (0, 0)) := (Below.heap_setCell _ ⟨a6, 0, none⟩ _ _ NE.out.symm).trans A7k.1
            have x7 := cell_of_row _ _ 0 _ _ _ X7; have f7 := frozen_of_row _ _ 0 _ _ X7
            simp at x7
            refine wpAnyH_ready (rs := [9]) (by kernel_rfl) (by simp) ?_
            refine AllReadyH.cons (o := _) rfl (fun K0 hK0 => ?_) AllReadyH.nil
            go_simp
            refine hK0.out _ _ (KH.out _ ((BF.out.setCell (p := ⟨a6, 0, none⟩) A6k.2 _).setCell (p := ⟨a7, 0, none⟩) A7k.2 _)) (fun hHeld => ?_)
            clear hK0 K0 x7 f7
            try simp only [Act.put, zz1, zz2, zz3, zz4, zz5, zz6]
            refine wpAnyH_done (by kernel_rfl) ?_ _
            go_wp2_with fail
            go_meet
            exact ⟨a6, a7, rfl, rfl, (Below.heap_setCell _ ⟨a7, 0, none⟩ _ _ NE.out).trans (heap_setCell_same _ _ 0 _ _ _ A6k.1), heap_setCell_same _ _ 0 _ _ _ X7, (BF.out.setCell (p := ⟨a6, 0, none⟩) A6k.2 _).setCell (p := ⟨a7, 0, none⟩) A7k.2 _⟩
      · go_simp
        obtain ⟨va7, hy⟩ : ∃ y, y = v0.alloc (.cells #[.int .i64 0] 2) := ⟨_, rfl⟩
        obtain ⟨a7, ha⟩ : ∃ a, a = v0.heap.size := ⟨_, rfl⟩
        rw [← hy, ← ha]
        have BN : Below v0.heap.size v0 va7 := by rw [hy]; exact below_new _ _
        have A7 : Hid (va7.heap[a7]? = some (.cells #[.int .i64 0] 2 (0, 0)) ∧ w3.heap.size ≤ a7) := ⟨by rw [hy, ha]; exact heap_alloc_new _ _, by rw [ha]; exact BF.out.size⟩
        have BF := Lib.hid (BF.out.trans (BN.mono BF.out.size))
        clear BN hy ha
        refine hK0.out _ _ (KH.out _ BF.out) (fun hHeld => ?_)
        clear hK0 K0
        try simp only [Act.put, zz1, zz2, zz3, zz4, zz5, zz6]
        refine wpAnyH_ready (rs := [2, 6]) (by kernel_rfl) (by simp) ?_
        refine AllReadyH.cons (o := _) rfl (fun K0 hK0 => ?_) (AllReadyH.cons (o := _) rfl (fun K0 hK0 => ?_) (AllReadyH.nil))
        · go_simp
          refine (TO.out va7 BF.out).mono ?_
          rintro e9 v1c ⟨rfl, hb⟩
          go_wp2_with fail
          have BF := Lib.hid (BF.out.trans (hb.mono BF.out.size))
          have A7 := Lib.hid (And.intro ((hb.block a7 (Array.getElem?_eq_some_iff.1 A7.out.1).1).trans A7.out.1) A7.out.2)
          clear hb
          refine hK0.out _ _ (KH.out _ BF.out) (fun hHeld => ?_)
          clear hK0 K0
          try simp only [Act.put, zz1, zz2, zz3, zz4, zz5, zz6]
          refine wpAnyH_ready (rs := [6]) (by kernel_rfl) (by simp) ?_
          refine AllReadyH.cons (o := _) rfl (fun K0 hK0 => ?_) (AllReadyH.nil)
          · go_simp
            obtain ⟨v7a6c, hy⟩ : ∃ y, y = v1c.alloc (.cells #[.int .i64 0] 2) := ⟨_, rfl⟩
            obtain ⟨a6, ha⟩ : ∃ a, a = v1c.heap.size := ⟨_, rfl⟩
            rw [← hy, ← ha]
            have BN : Below v1c.heap.size v1c v7a6c := by rw [hy]; exact below_new _ _
            have A6 : Hid (v7a6c.heap[a6]? = some (.cells #[.int .i64 0] 2 (0, 0)) ∧ w3.heap.size ≤ a6) := ⟨by rw [hy, ha]; exact heap_alloc_new _ _, by rw [ha]; exact BF.out.size⟩
            have NE : Hid (a6 ≠ a7) := by have := (Array.getElem?_eq_some_iff.1 A7.out.1).1; show a6 ≠ a7; omega
            have A7 := Lib.hid (And.intro ((BN.block a7 (Array.getElem?_eq_some_iff.1 A7.out.1).1).trans A7.out.1) A7.out.2)
            have BF := Lib.hid (BF.out.trans (BN.mono BF.out.size))
            clear BN hy ha
            refine hK0.out _ _ (KH.out _ BF.out) (fun hHeld => ?_)
            clear hK0 K0
            try simp only [Act.put, zz1, zz2, zz3, zz4, zz5, zz6]
            have A6k := A6.out; have A7k := A7.out
            have x6 := cell_of_row v7a6c _ 0 _ _ _ A6k.1; have f6 := frozen_of_row v7a6c _ 0 _ _ A6k.1
            simp at x6
            refine wpAnyH_ready (rs := [8]) (by kernel_rfl) (by simp) ?_
            refine AllReadyH.cons (o := _) rfl (fun K0 hK0 => ?_) AllReadyH.nil
            go_simp
            refine hK0.out _ _ (KH.out _ (BF.out.setCell (p := ⟨a6, 0, none⟩) A6k.2 _)) (fun hHeld => ?_)
            clear hK0 K0 x6 f6
            try simp only [Act.put, zz1, zz2, zz3, zz4, zz5, zz6]
            have X7 : (v7a6c.setCell ⟨a6, 0, none⟩ (.int .i64 all)).heap[a7]? = some (.cells #[.int .i64 0] 2 (0, 0)) := (Below.heap_setCell _ ⟨a6, 0, none⟩ _ _ NE.out.symm).trans A7k.1
            have x7 := cell_of_row _ _ 0 _ _ _ X7; have f7 := frozen_of_row _ _ 0 _ _ X7
            simp at x7
            refine wpAnyH_ready (rs := [9]) (by kernel_rfl) (by simp) ?_
            refine AllReadyH.cons (o := _) rfl (fun K0 hK0 => ?_) AllReadyH.nil
            go_simp
            refine hK0.out _ _ (KH.out _ ((BF.out.setCell (p := ⟨a6, 0, none⟩) A6k.2 _).setCell (p := ⟨a7, 0, none⟩) A7k.2 _)) (fun hHeld => ?_)
            clear hK0 K0 x7 f7
            try simp only [Act.put, zz1, zz2, zz3, zz4, zz5, zz6]
            refine wpAnyH_done (by kernel_rfl) ?_ _
            go_wp2_with fail
            go_meet
            exact ⟨a6, a7, rfl, rfl, (Below.heap_setCell _ ⟨a7, 0, none⟩ _ _ NE.out).trans (heap_setCell_same _ _ 0 _ _ _ A6k.1), heap_setCell_same _ _ 0 _ _ _ X7, (BF.out.setCell (p := ⟨a6, 0, none⟩) A6k.2 _).setCell (p := ⟨a7, 0, none⟩) A7k.2 _⟩
        · go_simp
          obtain ⟨v7a6, hy⟩ : ∃ y, y = va7.alloc (.cells #[.int .i64 0] 2) := ⟨_, rfl⟩
          obtain ⟨a6, ha⟩ : ∃ a, a = va7.heap.size := ⟨_, rfl⟩
          rw [← hy, ← ha]
          have BN : Below va7.heap.size va7 v7a6 := by rw [hy]; exact below_new _ _
          have A6 : Hid (v7a6.heap[a6]? = some (.cells #[.int .i64 0] 2 (0, 0)) ∧ w3.heap.size ≤ a6) := ⟨by rw [hy, ha]; exact heap_alloc_new _ _, by rw [ha]; exact BF.out.size⟩
          have NE : Hid (a6 ≠ a7) := by have := (Array.getElem?_eq_some_iff.1 A7.out.1).1; show a6 ≠ a7; omega
          have A7 := Lib.hid (And.intro ((BN.block a7 (Array.getElem?_eq_some_iff.1 A7.out.1).1).trans A7.out.1) A7.out.2)
          have BF := Lib.hid (BF.out.trans (BN.mono BF.out.size))
          clear BN hy ha
          refine hK0.out _ _ (KH.out _ BF.out) (fun hHeld => ?_)
          clear hK0 K0
          try simp only [Act.put, zz1, zz2, zz3, zz4, zz5, zz6]
          refine wpAnyH_ready (rs := [2]) (by kernel_rfl) (by simp) ?_
          refine AllReadyH.cons (o := _) rfl (fun K0 hK0 => ?_) (AllReadyH.nil)
          · go_simp
            refine (TO.out v7a6 BF.out).mono ?_
            rintro e9 v2c ⟨rfl, hb⟩
            go_wp2_with fail
            have BF := Lib.hid (BF.out.trans (hb.mono BF.out.size))
            have A7 := Lib.hid (And.intro ((hb.block a7 (Array.getElem?_eq_some_iff.1 A7.out.1).1).trans A7.out.1) A7.out.2)
            have A6 := Lib.hid (And.intro ((hb.block a6 (Array.getElem?_eq_some_iff.1 A6.out.1).1).trans A6.out.1) A6.out.2)
            clear hb
            refine hK0.out _ _ (KH.out _ BF.out) (fun hHeld => ?_)
            clear hK0 K0
            try simp only [Act.put, zz1, zz2, zz3, zz4, zz5, zz6]
            have A6k := A6.out; have A7k := A7.out
            have x6 := cell_of_row v2c _ 0 _ _ _ A6k.1; have f6 := frozen_of_row v2c _ 0 _ _ A6k.1
            simp at x6
            refine wpAnyH_ready (rs := [8]) (by kernel_rfl) (by simp) ?_
            refine AllReadyH.cons (o := _) rfl (fun K0 hK0 => ?_) AllReadyH.nil
            go_simp
            refine hK0.out _ _ (KH.out _ (BF.out.setCell (p := ⟨a6, 0, none⟩) A6k.2 _)) (fun hHeld => ?_)
            clear hK0 K0 x6 f6
            try simp only [Act.put, zz1, zz2, zz3, zz4, zz5, zz6]
            have X7 : (v2c.setCell ⟨a6, 0, none⟩ (.int .i64 all)).heap[a7]? = some (.cells #[.int .i64 0] 2 (0, 0)) := (Below.heap_setCell _ ⟨a6, 0, none⟩ _ _ NE.out.symm).trans A7k.1
            have x7 := cell_of_row _ _ 0 _ _ _ X7; have f7 := frozen_of_row _ _ 0 _ _ X7
            simp at x7
            refine wpAnyH_ready (rs := [9]) (by kernel_rfl) (by simp) ?_
            refine AllReadyH.cons (o := _) rfl (fun K0 hK0 => ?_) AllReadyH.nil
            go_simp
            refine hK0.out _ _ (KH.out _ ((BF.out.setCell (p := ⟨a6, 0, none⟩) A6k.2 _).setCell (p := ⟨a7, 0, none⟩) A7k.2 _)) (fun hHeld => ?_)
            clear hK0 K0 x7 f7
            try simp only [Act.put, zz1, zz2, zz3, zz4, zz5, zz6]
            refine wpAnyH_done (by kernel_rfl) ?_ _
            go_wp2_with fail
            go_meet
            exact ⟨a6, a7, rfl, rfl, (Below.heap_setCell _ ⟨a7, 0, none⟩ _ _ NE.out).trans (heap_setCell_same _ _ 0 _ _ _ A6k.1), heap_setCell_same _ _ 0 _ _ _ X7, (BF.out.setCell (p := ⟨a6, 0, none⟩) A6k.2 _).setCell (p := ⟨a7, 0, none⟩) A7k.2 _⟩
  case rest =>
    obtain ⟨ga, gm, rfl, rfl, hga, hgm, hb⟩ := hcut
    obtain ⟨wx, hwx⟩ : ∃ wx, wx = wc := ⟨_, rfl⟩
    subst hwx
    have BX := Lib.hid hb
    have CC : Hid (∀ V, Below wx.heap.size wx V → V.cell? ⟨gp, 1, none⟩ = some (.slice I m d) ∧ V.cell? ⟨ga, 0, none⟩ = some (.int .i64 all) ∧ V.cell? ⟨w.heap.size + 1, 0, none⟩ = some (.int .i64 t) ∧ V.cell? ⟨gm, 0, none⟩ = some (.int .i64 (n : Int))) := fun V hV => by
      have bv := hb.trans (hV.mono hb.size)
      have j1 := (bv.block gp (Array.getElem?_eq_some_iff.1 K3.out).1).trans K3.out
      have j2 := (hV.block ga (Array.getElem?_eq_some_iff.1 hga).1).trans hga
      have j3 := (bv.block (w.heap.size + 1) (Array.getElem?_eq_some_iff.1 KT'.out).1).trans KT'.out
      have j4 := (hV.block gm (Array.getElem?_eq_some_iff.1 hgm).1).trans hgm
      exact ⟨cell_of_row V _ 1 _ _ _ j1, cell_of_row V _ 0 _ _ _ j2, cell_of_row V _ 0 _ _ _ j3, cell_of_row V _ 0 _ _ _ j4⟩
    have s1 := (KH.out wx hb).1
    have CF := Lib.hid (containsFar_any FX.out I m d w1.heap.size w2.heap.size gp ga (w.heap.size + 1) gm all HAL.out AA c lo (min hi w.heap.size) wx HM.out.symm (SI.out.below hb Z3.out) (Nat.le_trans Z3.out hb.size) (H.out wx (B3.out.trans (hb.mono B3.out.size))) (by have := B3.out.size; have := hb.size; omega) CC.out)
    clear hga hgm hb CC KH TO
    go_wp2_with fail
    refine CF.out.mono ?_
    rintro e w9 ⟨rfl, hb⟩
    have FIN := Lib.hid (B3.out.trans ((BX.out.trans (hb.mono BX.out.size)).mono B3.out.size))
    clear hb CF
    go_wp2
    go_ret
    exact ⟨by rw [EQ.out]; first | done | rfl, FIN.out⟩

end Go.Proofs.Ytckapndpefkcgaa
