/-
  The walk of FnExactWakeAll: whatever came in, it returns true.
-/
import Derived.Test.YtfgllhomnmacfaaDoorKit6
import Derived.Test.YtfgllhomnmacfaaDoorKit6d
import Derived.Test.YtfgllhomnmacfaaDoorSpec6g
import Derived.Test.YtfgllhomnmacfaaDoorImpl6i
import Derived.Deep.RegionHeld3
namespace Go.Proofs.YtfgllhomnmacfaaDoor
open Go.RowKit
set_option maxRecDepth 100000

theorem lt_row6 {w : World} {b : Nat} {cs vs : Array Value} {t : TypeId} (h : w.heap[b]? = some (.cells cs t (0, 0))) : b < (w.setRow b vs).heap.size := (Array.getElem?_eq_some_iff.1 (setRow_heap w b cs vs t _ h)).1
theorem le_row6 {w : World} {b s : Nat} {vs : Array Value} (h : s ≤ w.heap.size) : s ≤ (w.setRow b vs).heap.size := Nat.le_trans h (below_setRow (B := 0) (Below.refl 0 w) (Nat.zero_le _) vs).size

set_option maxHeartbeats 8000000 in
theorem walkWakeAll (E : E6) (Q : Option Addr) (k d : Nat) (zq : List Int) (A : Option Addr) (n c : Nat) (o : Int) (xs : List Int) (w : World) (hE : Errs E w) (hU : Unf E w) (hn : n ≤ 9223372036854775807) (hl : xs.length = n) (h : Sl w 0 w.heap.size A n (fun k => .int .i64 (gi xs k))) (hlq : zq.length = k) (hq : Sl w 0 w.heap.size Q k (fun j => .int .i64 (gi zq j))) :
    Calls Tryd.prog 11 #[.slice Q k d, .agg #[.int .i64 o, .slice A n c]] w fun e w' => e = .returned (.bool true) ∧ Below w.heap.size w w' := by
  obtain ⟨w1, hw1⟩ : ∃ w1, w1 = w.alloc (.cells #[.int .i64 o, .slice A n c] 44) := ⟨_, rfl⟩
  have k1 : w1.heap[w.heap.size]? = some (.cells #[.int .i64 o, .slice A n c] 44 (0, 0)) := by rw [hw1]; exact heap_alloc_new w _
  have B1 : Hid (Below w.heap.size w w1) := by rw [hw1]; exact below_new w _
  have Z1 : Hid (w1.heap.size = w.heap.size + 1) := by show _ = _; rw [hw1]; simp
  have QS : Hid (∀ W, Below w1.heap.size w1 W → W.cell? ⟨w.heap.size, 0, none⟩ = some (.int .i64 o) ∧ W.cell? ⟨w.heap.size, 1, none⟩ = some (.slice A n c)) := fun W hW => by
    have j := (hW.block w.heap.size (by have := Z1.out; omega)).trans k1
    exact ⟨cell_of_row W _ 0 _ _ _ j, cell_of_row W _ 1 _ _ _ j⟩
  have HW1 := Lib.hid hw1
  have HL := Lib.hid hl
  have HS : Hid (Sl w1 0 w.heap.size A n (fun k => .int .i64 (gi xs k))) := h.below B1.out (Nat.le_refl _)
  have FIN : Hid (∀ W, Below w1.heap.size w1 W → Below w.heap.size w W) := fun W hW => B1.out.trans (hW.mono (by have := Z1.out; omega))
  have GE : Hid (∀ W, Below w1.heap.size w1 W → Errs E W ∧ Unf E W) := fun W hW => ⟨hE.below (FIN.out W hW), hU.below (FIN.out W hW)⟩
  have SZ := Lib.hid (szLock_any A n c o 1048576 w1 hn (by omega) (by omega))
  have TK : Hid (∀ W, Below w1.heap.size w1 W → n ≤ 1048576 → Calls Tryd.prog 36 #[.agg #[.int .i64 o, .slice A n c]] W fun e w' => ∃ u, e = .returned (.agg #[.int .i64 o, .slice (some ⟨u, 0, none⟩) n n]) ∧ (W.heap.size < u ∧ u < w'.heap.size) ∧ Mine w' u (u + 1) 2 (some ⟨u, 0, none⟩) n (fun k => .int .i64 (gi xs k)) ∧ Below W.heap.size W w') := fun W hW h20 =>
    (toLock_any 0 w.heap.size A n c o (gi xs) W (by omega) (HS.out.below hW (by have := Z1.out; omega))).mono fun e w' ⟨u, h1, h2, h3, h4⟩ => ⟨u, h1, h2, .inr ⟨u, 0, rfl, Nat.le_refl _, Nat.lt_succ_self _, h3⟩, h4⟩
  have TL := TK
  have HLQ := Lib.hid hlq
  have HSQ : Hid (Sl w1 0 w.heap.size Q k (fun j => .int .i64 (gi zq j))) := hq.below B1.out (Nat.le_refl _)
  clear h hl k1 hw1 hn hE hU hlq hq
  by_cases hkk : k ≤ 1048576
  rotate_left
  · have hk2 : (1048576 : Int) < k := by omega
    clear hkk
    obtain ⟨q0, q1⟩ := QS.out w1 (Below.refl _ _)
    go_enter Tryd.func11, Tryd.ntmps11
    go_upto_region 1 with (fail)
    rw [← HW1.out]
    clear HW1
    go_wp2
    go_ret
    exact ⟨rfl, FIN.out _ (Below.refl _ _)⟩
  have k20 : ¬ ((1048576 : Int) < k) := by omega
  have K20 := Lib.hid hkk
  have TQ : Hid (∀ W, Below w1.heap.size w1 W → Calls Tryd.prog 38 #[.slice Q k d] W fun e w' => ∃ u, e = .returned (.slice (some ⟨u, 0, none⟩) k k) ∧ (W.heap.size ≤ u ∧ u < w'.heap.size) ∧ Mine w' u (u + 1) 2 (some ⟨u, 0, none⟩) k (fun j => .int .i64 (gi zq j)) ∧ Below W.heap.size W w') := fun W hW =>
    (toInt64S_any 0 w.heap.size Q k d (gi zq) W (by have := K20.out; omega) (HSQ.out.below hW (by have := Z1.out; omega)) (by have := Z1.out; have := hW.size; omega)).mono fun e w' ⟨h1, h2, h3⟩ => ⟨W.heap.size, h1, ⟨Nat.le_refl _, h2.lt⟩, .inr ⟨W.heap.size, 0, rfl, Nat.le_refl _, Nat.lt_succ_self _, h2⟩, h3⟩
  clear hkk
  obtain ⟨q0, q1⟩ := QS.out w1 (Below.refl _ _)
  go_enter Tryd.func11, Tryd.ntmps11
  go_upto_region 1 with (fail)
  rw [← HW1.out]
  clear HW1
  go_wp2_with fail
  refine SZ.out.mono ?_
  rintro e9 w2 ⟨rfl, hb⟩
  have R2 := Lib.hid hb
  clear SZ q0 q1 hb
  obtain ⟨q0, q1⟩ := QS.out w2 R2.out
  by_cases hs : n ≤ 1048576
  rotate_left
  · have hs2 : (1048576 : Int) - n < 0 := by omega
    rw [if_pos hs2]
    clear hs hs2
    go_wp2
    go_ret
    exact ⟨rfl, FIN.out _ R2.out⟩
  have z20 : ¬ (1048576 - (n : Int) < 0) := by omega
  rw [if_neg z20]
  have H20 := Lib.hid hs
  have HA : Hid (n ≤ n) := Nat.le_refl _
  clear hs
  have TL : Hid (∀ W, Below w1.heap.size w1 W → Calls Tryd.prog 36 #[.agg #[.int .i64 o, .slice A n c]] W fun e w' => ∃ u, e = .returned (.agg #[.int .i64 o, .slice (some ⟨u, 0, none⟩) n n]) ∧ (W.heap.size < u ∧ u < w'.heap.size) ∧ Mine w' u (u + 1) 2 (some ⟨u, 0, none⟩) n (fun k => .int .i64 (gi xs k)) ∧ Below W.heap.size W w') := fun W hW => TK.out W hW H20.out
  obtain ⟨r6, hr6⟩ : ∃ r6, r6 = all6 zq o xs := ⟨_, rfl⟩
  have SM := Lib.hid (show r6.2.2.2.2.1.length ≤ 1999999 ∧ r6.2.2.2.2.2.length ≤ 1999999 by rw [hr6]; exact all6_len zq o xs)
  have SP : Hid (∀ W a u, Below w1.heap.size w1 W → Mine W a (a + 1) 2 (some ⟨a, 0, none⟩) k (fun j => .int .i64 (gi zq j)) → Mine W u (u + 1) 2 (some ⟨u, 0, none⟩) n (fun k => .int .i64 (gi xs k)) → Calls Tryd.prog 29 #[.slice (some ⟨a, 0, none⟩) k k, .agg #[.int .i64 o, .slice (some ⟨u, 0, none⟩) n n]] W (LA r6 W)) := fun W a u _ hq hm => by
    rw [hr6]
    exact specWakeAll_any u (u + 1) a (a + 1) _ _ n n k k o xs zq W H20.out (Nat.le_refl _) HL.out (by simp) hm.sl K20.out (Nat.le_refl _) HLQ.out (by simp) hq.sl
  have IP : Hid (∀ W a u, Below w1.heap.size w1 W → Mine W a (a + 1) 2 (some ⟨a, 0, none⟩) k (fun j => .int .i64 (gi zq j)) → Mine W u (u + 1) 2 (some ⟨u, 0, none⟩) n (fun k => .int .i64 (gi xs k)) → Calls Tryd.prog 25 #[.slice (some ⟨a, 0, none⟩) k k, .agg #[.int .i64 o, .slice (some ⟨u, 0, none⟩) n n]] W (LA r6 W)) := fun W a u hW hq hm => by
    rw [hr6]
    exact implWakeAll_any E u (u + 1) a (a + 1) _ _ n n k k o xs zq W (GE.out W hW).1 (GE.out W hW).2 H20.out (Nat.le_refl _) HL.out (by simp) hm.sl K20.out (Nat.le_refl _) HLQ.out (by simp) hq.sl
  clear hr6
  obtain ⟨rq, rg, rn, ro, ys, zs⟩ := r6
  have SM : Hid (ys.length ≤ 1999999 ∧ zs.length ≤ 1999999) := SM.out
  obtain ⟨m, hm0⟩ : ∃ m, m = ys.length := ⟨_, rfl⟩
  obtain ⟨m2, hm2⟩ : ∃ m2, m2 = zs.length := ⟨_, rfl⟩
  have SP : Hid (∀ W a u, Below w1.heap.size w1 W → Mine W a (a + 1) 2 (some ⟨a, 0, none⟩) k (fun j => .int .i64 (gi zq j)) → Mine W u (u + 1) 2 (some ⟨u, 0, none⟩) n (fun k => .int .i64 (gi xs k)) → Calls Tryd.prog 29 #[.slice (some ⟨a, 0, none⟩) k k, .agg #[.int .i64 o, .slice (some ⟨u, 0, none⟩) n n]] W fun e w' => ∃ A c B d, e = .returned (.agg #[.int .i64 rq, .bool rg, .int .i64 rn, .int .i64 ro, .slice A m c, .slice B m2 d]) ∧ OR 2 1 w' W.heap.size A m c ys ∧ OR 2 1 w' W.heap.size B m2 d zs ∧ Apart A B ∧ Below W.heap.size W w') := by rw [hm0, hm2]; exact SP.out
  have IP : Hid (∀ W a u, Below w1.heap.size w1 W → Mine W a (a + 1) 2 (some ⟨a, 0, none⟩) k (fun j => .int .i64 (gi zq j)) → Mine W u (u + 1) 2 (some ⟨u, 0, none⟩) n (fun k => .int .i64 (gi xs k)) → Calls Tryd.prog 25 #[.slice (some ⟨a, 0, none⟩) k k, .agg #[.int .i64 o, .slice (some ⟨u, 0, none⟩) n n]] W fun e w' => ∃ A c B d, e = .returned (.agg #[.int .i64 rq, .bool rg, .int .i64 rn, .int .i64 ro, .slice A m c, .slice B m2 d]) ∧ OR 2 1 w' W.heap.size A m c ys ∧ OR 2 1 w' W.heap.size B m2 d zs ∧ Apart A B ∧ Below W.heap.size W w') := by rw [hm0, hm2]; exact IP.out
  have HM := Lib.hid (show m ≤ 1999999 ∧ m2 ≤ 1999999 by rw [hm0, hm2]; exact SM.out)
  clear hm0 hm2 SM
  have RB := R2
  go_upto_region 7 with (fail)
  go_cut [6] from 22 (fun x6 wx => ∃ (b6 uq s0 : Nat) (A' : Option Addr) (c' : Nat) (B' : Option Addr) (d' : Nat), x6 = .pointer (some ⟨b6, 0, none⟩) ∧ wx.heap[b6]? = some (.cells #[.int .i64 rq, .bool rg, .int .i64 rn, .int .i64 ro, .slice A' m c', .slice B' m2 d'] 30 (0, 0)) ∧ (w2.heap.size ≤ b6 ∧ b6 < wx.heap.size ∧ uq ≠ b6 ∧ w2.heap.size ≤ uq ∧ uq < s0 ∧ s0 ≤ wx.heap.size) ∧ OR 2 1 wx s0 A' m c' ys ∧ OR 2 1 wx s0 B' m2 d' zs ∧ Below w2.heap.size w2 wx)
  case first => as_aux_lemma =>
    refine wp_region_held_drew (S := fun W => W.cell? ⟨w.heap.size, 0, none⟩ = some (.int .i64 o) ∧ W.cell? ⟨w.heap.size, 1, none⟩ = some (.slice A n c)) (by kernel_rfl) (QS.out _ RB.out.drew) (fun hHeld => ?_)
    obtain ⟨v0, hv0⟩ : ∃ v0, v0 = w2.drew := ⟨_, rfl⟩
    have BL0 : Hid (Below w2.heap.size w2 v0) := by rw [hv0]; exact Below.drew (Below.refl _ _)
    rw [← hv0] at hHeld ⊢
    clear hv0
    refine wpAnyH_take (i := 0) (oi := _) (v := ?_) rfl (by kernel_rfl) (by kernel_rfl) (by kernel_rfl) (fun _ _ _ h => h) (Or.inl ⟨by rfl, ?_⟩) hHeld ?_
    rotate_left
    · (intro w hSw; (try dsimp only at hSw); go_simp; try with_reducible rfl)
    try simp only [Act.put, List.getElem_toArray, List.getElem_cons_succ, List.getElem_cons_zero, List.setIfInBounds_toArray, List.set_cons_zero, List.set_cons_succ]
    refine wpAnyH_take (i := 2) (oi := _) (v := ?_) rfl (by kernel_rfl) (by kernel_rfl) (by kernel_rfl) (fun _ _ _ h => h) (Or.inl ⟨by rfl, ?_⟩) hHeld ?_
    rotate_left
    · (intro w hSw; (try dsimp only at hSw); go_simp; try with_reducible rfl)
    try simp only [Act.put, List.getElem_toArray, List.getElem_cons_succ, List.getElem_cons_zero, List.setIfInBounds_toArray, List.set_cons_zero, List.set_cons_succ]
    refine wpAnyH_ready (rs := [1, 5]) (by kernel_rfl) (by simp) ?_
    refine AllReadyH.cons (o := _) rfl (fun K0 hK0 => ?_) (AllReadyH.cons (o := _) rfl (fun K0 hK0 => ?_) AllReadyH.nil)
    · go_simp
      refine (TQ.out _ (RB.out.trans ((BL0.out).mono RB.out.size))).mono ?_
      rintro e9 v1 ⟨uq, rfl, hu, hm, hb⟩
      go_wp2_with fail
      have BV1 := Lib.hid ((BL0.out).trans (hb.mono (BL0.out).size))
      have MQ := Lib.hid hm
      have UQ := Lib.hid (show w2.heap.size ≤ uq ∧ uq < v1.heap.size by have := (BL0.out).size; omega)
      clear hu hm hb
      refine hK0.out _ _ (QS.out _ (RB.out.trans ((BV1.out).mono RB.out.size))) (fun hHeld => ?_)
      clear hK0 K0
      try simp only [Act.put, List.getElem_toArray, List.getElem_cons_succ, List.getElem_cons_zero, List.setIfInBounds_toArray, List.set_cons_zero, List.set_cons_succ]
      refine wpAnyH_ready (rs := [3, 5]) (by kernel_rfl) (by simp) ?_
      refine AllReadyH.cons (o := _) rfl (fun K0 hK0 => ?_) (AllReadyH.cons (o := _) rfl (fun K0 hK0 => ?_) AllReadyH.nil)
      · go_simp
        refine (TL.out _ (RB.out.trans ((BV1.out).mono RB.out.size))).mono ?_
        rintro e9 v2 ⟨ul, rfl, hu, hm, hb⟩
        go_wp2_with fail
        have BV2 := Lib.hid ((BV1.out).trans (hb.mono (BV1.out).size))
        have ML := Lib.hid hm
        have UL := Lib.hid (show ul < v2.heap.size from hu.2)
        have MQ := Lib.hid (MQ.out.below hb (by have := UQ.out; omega))
        have UQ := Lib.hid (show w2.heap.size ≤ uq ∧ uq < v2.heap.size by have := UQ.out; have := hb.size; omega)
        clear hu hm hb
        refine hK0.out _ _ (QS.out _ (RB.out.trans ((BV2.out).mono RB.out.size))) (fun hHeld => ?_)
        clear hK0 K0
        try simp only [Act.put, List.getElem_toArray, List.getElem_cons_succ, List.getElem_cons_zero, List.setIfInBounds_toArray, List.set_cons_zero, List.set_cons_succ]
        refine wpAnyH_ready (rs := [4, 5]) (by kernel_rfl) (by simp) ?_
        refine AllReadyH.cons (o := _) rfl (fun K0 hK0 => ?_) (AllReadyH.cons (o := _) rfl (fun K0 hK0 => ?_) AllReadyH.nil)
        · go_simp
          refine (SP.out _ _ _ (RB.out.trans ((BV2.out).mono RB.out.size)) MQ.out ML.out).mono ?_
          rintro e9 v3 ⟨A', c', B', d', rfl, ho, ho2, hap, hb⟩
          go_wp2_with fail
          have BV3 := Lib.hid ((BV2.out).trans (hb.mono (BV2.out).size))
          obtain ⟨s0, hs0⟩ : ∃ s, s = v2.heap.size := ⟨_, rfl⟩
          rw [← hs0] at ho ho2
          have OA := Lib.hid ho
          have OB := Lib.hid ho2
          have SS := Lib.hid (show uq < s0 ∧ s0 ≤ v3.heap.size by have := UQ.out; have := hb.size; omega)
          have UQ := Lib.hid (show w2.heap.size ≤ uq ∧ uq < v3.heap.size by have := UQ.out; have := hb.size; omega)
          have ML := Lib.hid (ML.out.below hb UL.out)
          have UL := Lib.hid (show ul < v3.heap.size by have := UL.out; have := hb.size; omega)
          have MQ := Lib.hid (MQ.out.below hb (by have := SS.out; omega))
          clear ho ho2 hap hb hs0
          refine hK0.out _ _ (QS.out _ (RB.out.trans ((BV3.out).mono RB.out.size))) (fun hHeld => ?_)
          clear hK0 K0
          try simp only [Act.put, List.getElem_toArray, List.getElem_cons_succ, List.getElem_cons_zero, List.setIfInBounds_toArray, List.set_cons_zero, List.set_cons_succ]
          refine wpAnyH_ready (rs := [5]) (by kernel_rfl) (by simp) ?_
          refine AllReadyH.cons (o := _) rfl (fun K0 hK0 => ?_) AllReadyH.nil
          go_simp
          obtain ⟨y3, hy3⟩ : ∃ y, y = v3.alloc (.cells #[.int .i64 0, .bool false, .int .i64 0, .int .i64 0, .slice none 0 0, .slice none 0 0] 30) := ⟨_, rfl⟩
          obtain ⟨bx, hbx⟩ : ∃ b, b = v3.heap.size := ⟨_, rfl⟩
          rw [← hy3, ← hbx]
          have ZB := Lib.hid (show y3.heap[bx]? = some (.cells #[.int .i64 0, .bool false, .int .i64 0, .int .i64 0, .slice none 0 0, .slice none 0 0] 30 (0, 0)) by rw [hy3, hbx]; exact heap_alloc_new _ _)
          have ZL := Lib.hid (show w2.heap.size ≤ bx by rw [hbx]; exact (BV3.out).size)
          have BY3 := Lib.hid (show Below w2.heap.size w2 y3 by rw [hy3]; exact (BV3.out).alloc (BV3.out).size _)
          have NX := Lib.hid (show Below v3.heap.size v3 y3 by rw [hy3]; exact below_new _ _)
          have NE := Lib.hid (show bx = v3.heap.size ∧ y3.heap.size = bx + 1 by rw [hy3, hbx]; exact ⟨rfl, by simp⟩)
          have MQ := Lib.hid (MQ.out.below NX.out (by have := UQ.out; omega))
          have UQ := Lib.hid (show w2.heap.size ≤ uq ∧ uq < y3.heap.size ∧ uq ≠ bx by have := UQ.out; have := NE.out; omega)
          have ML := Lib.hid (ML.out.below NX.out (by have := UL.out; omega))
          have UL := Lib.hid (show ul < y3.heap.size by have := UL.out; have := NE.out; omega)
          have OA := Lib.hid (OA.out.below NX.out (Nat.le_refl _))
          have OB := Lib.hid (OB.out.below NX.out (Nat.le_refl _))
          have SS := Lib.hid (show uq < s0 ∧ s0 ≤ y3.heap.size by have := SS.out; have := NX.out.size; omega)
          clear hy3 hbx NX
          refine hK0.out _ _ (QS.out _ (RB.out.trans ((BY3.out).mono RB.out.size))) (fun hHeld => ?_)
          clear hK0 K0
          try simp only [Act.put, List.getElem_toArray, List.getElem_cons_succ, List.getElem_cons_zero, List.setIfInBounds_toArray, List.set_cons_zero, List.set_cons_succ]
          refine wpAnyH_ready (rs := [6]) (by kernel_rfl) (by simp) ?_
          refine AllReadyH.cons (o := _) rfl (fun K0 hK0 => ?_) AllReadyH.nil
          clear hHeld
          rw [if_pos (by rfl)]
          refine wp_store_row 30 _ _ rfl (bx) _ rfl rfl 30 _ ZB.out (by kernel_rfl) rfl (by simp [Value.oneCell']) ?_
          refine hK0.out _ _ (QS.out _ (RB.out.trans (((below_setRow (BY3.out) ZL.out _)).mono RB.out.size))) (fun hHeld => ?_)
          clear hK0 K0
          try simp only [Act.put, List.getElem_toArray, List.getElem_cons_succ, List.getElem_cons_zero, List.setIfInBounds_toArray, List.set_cons_zero, List.set_cons_succ]
          refine wpAnyH_done (by kernel_rfl) ?_ _
          go_wp2_with fail
          go_meet
          case rel => exact ⟨bx, uq, s0, A', c', B', d', rfl, setRow_heap _ _ _ _ _ _ ZB.out, ⟨ZL.out, lt_row6 ZB.out, by have := UQ.out; omega, UQ.out.1, SS.out.1, le_row6 SS.out.2⟩, OR.rowOther6 OA.out ZB.out (by decide) _, OR.rowOther6 OB.out ZB.out (by decide) _, below_setRow (BY3.out) ZL.out _⟩
        · go_simp
          obtain ⟨y2, hy2⟩ : ∃ y, y = v2.alloc (.cells #[.int .i64 0, .bool false, .int .i64 0, .int .i64 0, .slice none 0 0, .slice none 0 0] 30) := ⟨_, rfl⟩
          obtain ⟨bx, hbx⟩ : ∃ b, b = v2.heap.size := ⟨_, rfl⟩
          rw [← hy2, ← hbx]
          have ZB := Lib.hid (show y2.heap[bx]? = some (.cells #[.int .i64 0, .bool false, .int .i64 0, .int .i64 0, .slice none 0 0, .slice none 0 0] 30 (0, 0)) by rw [hy2, hbx]; exact heap_alloc_new _ _)
          have ZL := Lib.hid (show w2.heap.size ≤ bx by rw [hbx]; exact (BV2.out).size)
          have BY2 := Lib.hid (show Below w2.heap.size w2 y2 by rw [hy2]; exact (BV2.out).alloc (BV2.out).size _)
          have NX := Lib.hid (show Below v2.heap.size v2 y2 by rw [hy2]; exact below_new _ _)
          have NE := Lib.hid (show bx = v2.heap.size ∧ y2.heap.size = bx + 1 by rw [hy2, hbx]; exact ⟨rfl, by simp⟩)
          have MQ := Lib.hid (MQ.out.below NX.out (by have := UQ.out; omega))
          have UQ := Lib.hid (show w2.heap.size ≤ uq ∧ uq < y2.heap.size ∧ uq ≠ bx by have := UQ.out; have := NE.out; omega)
          have ML := Lib.hid (ML.out.below NX.out (by have := UL.out; omega))
          have UL := Lib.hid (show ul < y2.heap.size by have := UL.out; have := NE.out; omega)
          clear hy2 hbx NX
          refine hK0.out _ _ (QS.out _ (RB.out.trans ((BY2.out).mono RB.out.size))) (fun hHeld => ?_)
          clear hK0 K0
          try simp only [Act.put, List.getElem_toArray, List.getElem_cons_succ, List.getElem_cons_zero, List.setIfInBounds_toArray, List.set_cons_zero, List.set_cons_succ]
          refine wpAnyH_ready (rs := [4]) (by kernel_rfl) (by simp) ?_
          refine AllReadyH.cons (o := _) rfl (fun K0 hK0 => ?_) AllReadyH.nil
          go_simp
          refine (SP.out _ _ _ (RB.out.trans ((BY2.out).mono RB.out.size)) MQ.out ML.out).mono ?_
          rintro e9 v3 ⟨A', c', B', d', rfl, ho, ho2, hap, hb⟩
          go_wp2_with fail
          have BV3 := Lib.hid ((BY2.out).trans (hb.mono (BY2.out).size))
          obtain ⟨s0, hs0⟩ : ∃ s, s = y2.heap.size := ⟨_, rfl⟩
          rw [← hs0] at ho ho2
          have OA := Lib.hid ho
          have OB := Lib.hid ho2
          have SS := Lib.hid (show uq < s0 ∧ s0 ≤ v3.heap.size by have := UQ.out; have := hb.size; omega)
          have UQ := Lib.hid (show w2.heap.size ≤ uq ∧ uq < v3.heap.size ∧ uq ≠ bx by have := UQ.out; have := hb.size; omega)
          have ML := Lib.hid (ML.out.below hb UL.out)
          have UL := Lib.hid (show ul < v3.heap.size by have := UL.out; have := hb.size; omega)
          have MQ := Lib.hid (MQ.out.below hb (by have := SS.out; omega))
          have ZB := Lib.hid ((hb.block bx (Array.getElem?_eq_some_iff.1 ZB.out).1).trans ZB.out)
          clear ho ho2 hap hb hs0
          refine hK0.out _ _ (QS.out _ (RB.out.trans ((BV3.out).mono RB.out.size))) (fun hHeld => ?_)
          clear hK0 K0
          try simp only [Act.put, List.getElem_toArray, List.getElem_cons_succ, List.getElem_cons_zero, List.setIfInBounds_toArray, List.set_cons_zero, List.set_cons_succ]
          refine wpAnyH_ready (rs := [6]) (by kernel_rfl) (by simp) ?_
          refine AllReadyH.cons (o := _) rfl (fun K0 hK0 => ?_) AllReadyH.nil
          clear hHeld
          rw [if_pos (by rfl)]
          refine wp_store_row 30 _ _ rfl (bx) _ rfl rfl 30 _ ZB.out (by kernel_rfl) rfl (by simp [Value.oneCell']) ?_
          refine hK0.out _ _ (QS.out _ (RB.out.trans (((below_setRow (BV3.out) ZL.out _)).mono RB.out.size))) (fun hHeld => ?_)
          clear hK0 K0
          try simp only [Act.put, List.getElem_toArray, List.getElem_cons_succ, List.getElem_cons_zero, List.setIfInBounds_toArray, List.set_cons_zero, List.set_cons_succ]
          refine wpAnyH_done (by kernel_rfl) ?_ _
          go_wp2_with fail
          go_meet
          case rel => exact ⟨bx, uq, s0, A', c', B', d', rfl, setRow_heap _ _ _ _ _ _ ZB.out, ⟨ZL.out, lt_row6 ZB.out, by have := UQ.out; omega, UQ.out.1, SS.out.1, le_row6 SS.out.2⟩, OR.rowOther6 OA.out ZB.out (by decide) _, OR.rowOther6 OB.out ZB.out (by decide) _, below_setRow (BV3.out) ZL.out _⟩
      · go_simp
        obtain ⟨y1, hy1⟩ : ∃ y, y = v1.alloc (.cells #[.int .i64 0, .bool false, .int .i64 0, .int .i64 0, .slice none 0 0, .slice none 0 0] 30) := ⟨_, rfl⟩
        obtain ⟨bx, hbx⟩ : ∃ b, b = v1.heap.size := ⟨_, rfl⟩
        rw [← hy1, ← hbx]
        have ZB := Lib.hid (show y1.heap[bx]? = some (.cells #[.int .i64 0, .bool false, .int .i64 0, .int .i64 0, .slice none 0 0, .slice none 0 0] 30 (0, 0)) by rw [hy1, hbx]; exact heap_alloc_new _ _)
        have ZL := Lib.hid (show w2.heap.size ≤ bx by rw [hbx]; exact (BV1.out).size)
        have BY1 := Lib.hid (show Below w2.heap.size w2 y1 by rw [hy1]; exact (BV1.out).alloc (BV1.out).size _)
        have NX := Lib.hid (show Below v1.heap.size v1 y1 by rw [hy1]; exact below_new _ _)
        have NE := Lib.hid (show bx = v1.heap.size ∧ y1.heap.size = bx + 1 by rw [hy1, hbx]; exact ⟨rfl, by simp⟩)
        have MQ := Lib.hid (MQ.out.below NX.out (by have := UQ.out; omega))
        have UQ := Lib.hid (show w2.heap.size ≤ uq ∧ uq < y1.heap.size ∧ uq ≠ bx by have := UQ.out; have := NE.out; omega)
        clear hy1 hbx NX
        refine hK0.out _ _ (QS.out _ (RB.out.trans ((BY1.out).mono RB.out.size))) (fun hHeld => ?_)
        clear hK0 K0
        try simp only [Act.put, List.getElem_toArray, List.getElem_cons_succ, List.getElem_cons_zero, List.setIfInBounds_toArray, List.set_cons_zero, List.set_cons_succ]
        refine wpAnyH_ready (rs := [3]) (by kernel_rfl) (by simp) ?_
        refine AllReadyH.cons (o := _) rfl (fun K0 hK0 => ?_) AllReadyH.nil
        go_simp
        refine (TL.out _ (RB.out.trans ((BY1.out).mono RB.out.size))).mono ?_
        rintro e9 v2 ⟨ul, rfl, hu, hm, hb⟩
        go_wp2_with fail
        have BV2 := Lib.hid ((BY1.out).trans (hb.mono (BY1.out).size))
        have ML := Lib.hid hm
        have UL := Lib.hid (show ul < v2.heap.size from hu.2)
        have MQ := Lib.hid (MQ.out.below hb (by have := UQ.out; omega))
        have UQ := Lib.hid (show w2.heap.size ≤ uq ∧ uq < v2.heap.size ∧ uq ≠ bx by have := UQ.out; have := hb.size; omega)
        have ZB := Lib.hid ((hb.block bx (Array.getElem?_eq_some_iff.1 ZB.out).1).trans ZB.out)
        clear hu hm hb
        refine hK0.out _ _ (QS.out _ (RB.out.trans ((BV2.out).mono RB.out.size))) (fun hHeld => ?_)
        clear hK0 K0
        try simp only [Act.put, List.getElem_toArray, List.getElem_cons_succ, List.getElem_cons_zero, List.setIfInBounds_toArray, List.set_cons_zero, List.set_cons_succ]
        refine wpAnyH_ready (rs := [4]) (by kernel_rfl) (by simp) ?_
        refine AllReadyH.cons (o := _) rfl (fun K0 hK0 => ?_) AllReadyH.nil
        go_simp
        refine (SP.out _ _ _ (RB.out.trans ((BV2.out).mono RB.out.size)) MQ.out ML.out).mono ?_
        rintro e9 v3 ⟨A', c', B', d', rfl, ho, ho2, hap, hb⟩
        go_wp2_with fail
        have BV3 := Lib.hid ((BV2.out).trans (hb.mono (BV2.out).size))
        obtain ⟨s0, hs0⟩ : ∃ s, s = v2.heap.size := ⟨_, rfl⟩
        rw [← hs0] at ho ho2
        have OA := Lib.hid ho
        have OB := Lib.hid ho2
        have SS := Lib.hid (show uq < s0 ∧ s0 ≤ v3.heap.size by have := UQ.out; have := hb.size; omega)
        have UQ := Lib.hid (show w2.heap.size ≤ uq ∧ uq < v3.heap.size ∧ uq ≠ bx by have := UQ.out; have := hb.size; omega)
        have ML := Lib.hid (ML.out.below hb UL.out)
        have UL := Lib.hid (show ul < v3.heap.size by have := UL.out; have := hb.size; omega)
        have MQ := Lib.hid (MQ.out.below hb (by have := SS.out; omega))
        have ZB := Lib.hid ((hb.block bx (Array.getElem?_eq_some_iff.1 ZB.out).1).trans ZB.out)
        clear ho ho2 hap hb hs0
        refine hK0.out _ _ (QS.out _ (RB.out.trans ((BV3.out).mono RB.out.size))) (fun hHeld => ?_)
        clear hK0 K0
        try simp only [Act.put, List.getElem_toArray, List.getElem_cons_succ, List.getElem_cons_zero, List.setIfInBounds_toArray, List.set_cons_zero, List.set_cons_succ]
        refine wpAnyH_ready (rs := [6]) (by kernel_rfl) (by simp) ?_
        refine AllReadyH.cons (o := _) rfl (fun K0 hK0 => ?_) AllReadyH.nil
        clear hHeld
        rw [if_pos (by rfl)]
        refine wp_store_row 30 _ _ rfl (bx) _ rfl rfl 30 _ ZB.out (by kernel_rfl) rfl (by simp [Value.oneCell']) ?_
        refine hK0.out _ _ (QS.out _ (RB.out.trans (((below_setRow (BV3.out) ZL.out _)).mono RB.out.size))) (fun hHeld => ?_)
        clear hK0 K0
        try simp only [Act.put, List.getElem_toArray, List.getElem_cons_succ, List.getElem_cons_zero, List.setIfInBounds_toArray, List.set_cons_zero, List.set_cons_succ]
        refine wpAnyH_done (by kernel_rfl) ?_ _
        go_wp2_with fail
        go_meet
        case rel => exact ⟨bx, uq, s0, A', c', B', d', rfl, setRow_heap _ _ _ _ _ _ ZB.out, ⟨ZL.out, lt_row6 ZB.out, by have := UQ.out; omega, UQ.out.1, SS.out.1, le_row6 SS.out.2⟩, OR.rowOther6 OA.out ZB.out (by decide) _, OR.rowOther6 OB.out ZB.out (by decide) _, below_setRow (BV3.out) ZL.out _⟩
    · go_simp
      obtain ⟨y0, hy0⟩ : ∃ y, y = v0.alloc (.cells #[.int .i64 0, .bool false, .int .i64 0, .int .i64 0, .slice none 0 0, .slice none 0 0] 30) := ⟨_, rfl⟩
      obtain ⟨bx, hbx⟩ : ∃ b, b = v0.heap.size := ⟨_, rfl⟩
      rw [← hy0, ← hbx]
      have ZB := Lib.hid (show y0.heap[bx]? = some (.cells #[.int .i64 0, .bool false, .int .i64 0, .int .i64 0, .slice none 0 0, .slice none 0 0] 30 (0, 0)) by rw [hy0, hbx]; exact heap_alloc_new _ _)
      have ZL := Lib.hid (show w2.heap.size ≤ bx by rw [hbx]; exact (BL0.out).size)
      have BY0 := Lib.hid (show Below w2.heap.size w2 y0 by rw [hy0]; exact (BL0.out).alloc (BL0.out).size _)
      have NX := Lib.hid (show Below v0.heap.size v0 y0 by rw [hy0]; exact below_new _ _)
      have NE := Lib.hid (show bx = v0.heap.size ∧ y0.heap.size = bx + 1 by rw [hy0, hbx]; exact ⟨rfl, by simp⟩)
      clear hy0 hbx NX
      refine hK0.out _ _ (QS.out _ (RB.out.trans ((BY0.out).mono RB.out.size))) (fun hHeld => ?_)
      clear hK0 K0
      try simp only [Act.put, List.getElem_toArray, List.getElem_cons_succ, List.getElem_cons_zero, List.setIfInBounds_toArray, List.set_cons_zero, List.set_cons_succ]
      refine wpAnyH_ready (rs := [1]) (by kernel_rfl) (by simp) ?_
      refine AllReadyH.cons (o := _) rfl (fun K0 hK0 => ?_) AllReadyH.nil
      go_simp
      refine (TQ.out _ (RB.out.trans ((BY0.out).mono RB.out.size))).mono ?_
      rintro e9 v1 ⟨uq, rfl, hu, hm, hb⟩
      go_wp2_with fail
      have BV1 := Lib.hid ((BY0.out).trans (hb.mono (BY0.out).size))
      have MQ := Lib.hid hm
      have UQ := Lib.hid (show w2.heap.size ≤ uq ∧ uq < v1.heap.size ∧ uq ≠ bx by have := (BY0.out).size; have := NE.out; omega)
      have ZB := Lib.hid ((hb.block bx (Array.getElem?_eq_some_iff.1 ZB.out).1).trans ZB.out)
      clear hu hm hb
      refine hK0.out _ _ (QS.out _ (RB.out.trans ((BV1.out).mono RB.out.size))) (fun hHeld => ?_)
      clear hK0 K0
      try simp only [Act.put, List.getElem_toArray, List.getElem_cons_succ, List.getElem_cons_zero, List.setIfInBounds_toArray, List.set_cons_zero, List.set_cons_succ]
      refine wpAnyH_ready (rs := [3]) (by kernel_rfl) (by simp) ?_
      refine AllReadyH.cons (o := _) rfl (fun K0 hK0 => ?_) AllReadyH.nil
      go_simp
      refine (TL.out _ (RB.out.trans ((BV1.out).mono RB.out.size))).mono ?_
      rintro e9 v2 ⟨ul, rfl, hu, hm, hb⟩
      go_wp2_with fail
      have BV2 := Lib.hid ((BV1.out).trans (hb.mono (BV1.out).size))
      have ML := Lib.hid hm
      have UL := Lib.hid (show ul < v2.heap.size from hu.2)
      have MQ := Lib.hid (MQ.out.below hb (by have := UQ.out; omega))
      have UQ := Lib.hid (show w2.heap.size ≤ uq ∧ uq < v2.heap.size ∧ uq ≠ bx by have := UQ.out; have := hb.size; omega)
      have ZB := Lib.hid ((hb.block bx (Array.getElem?_eq_some_iff.1 ZB.out).1).trans ZB.out)
      clear hu hm hb
      refine hK0.out _ _ (QS.out _ (RB.out.trans ((BV2.out).mono RB.out.size))) (fun hHeld => ?_)
      clear hK0 K0
      try simp only [Act.put, List.getElem_toArray, List.getElem_cons_succ, List.getElem_cons_zero, List.setIfInBounds_toArray, List.set_cons_zero, List.set_cons_succ]
      refine wpAnyH_ready (rs := [4]) (by kernel_rfl) (by simp) ?_
      refine AllReadyH.cons (o := _) rfl (fun K0 hK0 => ?_) AllReadyH.nil
      go_simp
      refine (SP.out _ _ _ (RB.out.trans ((BV2.out).mono RB.out.size)) MQ.out ML.out).mono ?_
      rintro e9 v3 ⟨A', c', B', d', rfl, ho, ho2, hap, hb⟩
      go_wp2_with fail
      have BV3 := Lib.hid ((BV2.out).trans (hb.mono (BV2.out).size))
      obtain ⟨s0, hs0⟩ : ∃ s, s = v2.heap.size := ⟨_, rfl⟩
      rw [← hs0] at ho ho2
      have OA := Lib.hid ho
      have OB := Lib.hid ho2
      have SS := Lib.hid (show uq < s0 ∧ s0 ≤ v3.heap.size by have := UQ.out; have := hb.size; omega)
      have UQ := Lib.hid (show w2.heap.size ≤ uq ∧ uq < v3.heap.size ∧ uq ≠ bx by have := UQ.out; have := hb.size; omega)
      have ML := Lib.hid (ML.out.below hb UL.out)
      have UL := Lib.hid (show ul < v3.heap.size by have := UL.out; have := hb.size; omega)
      have MQ := Lib.hid (MQ.out.below hb (by have := SS.out; omega))
      have ZB := Lib.hid ((hb.block bx (Array.getElem?_eq_some_iff.1 ZB.out).1).trans ZB.out)
      clear ho ho2 hap hb hs0
      refine hK0.out _ _ (QS.out _ (RB.out.trans ((BV3.out).mono RB.out.size))) (fun hHeld => ?_)
      clear hK0 K0
      try simp only [Act.put, List.getElem_toArray, List.getElem_cons_succ, List.getElem_cons_zero, List.setIfInBounds_toArray, List.set_cons_zero, List.set_cons_succ]
      refine wpAnyH_ready (rs := [6]) (by kernel_rfl) (by simp) ?_
      refine AllReadyH.cons (o := _) rfl (fun K0 hK0 => ?_) AllReadyH.nil
      clear hHeld
      rw [if_pos (by rfl)]
      refine wp_store_row 30 _ _ rfl (bx) _ rfl rfl 30 _ ZB.out (by kernel_rfl) rfl (by simp [Value.oneCell']) ?_
      refine hK0.out _ _ (QS.out _ (RB.out.trans (((below_setRow (BV3.out) ZL.out _)).mono RB.out.size))) (fun hHeld => ?_)
      clear hK0 K0
      try simp only [Act.put, List.getElem_toArray, List.getElem_cons_succ, List.getElem_cons_zero, List.setIfInBounds_toArray, List.set_cons_zero, List.set_cons_succ]
      refine wpAnyH_done (by kernel_rfl) ?_ _
      go_wp2_with fail
      go_meet
      case rel => exact ⟨bx, uq, s0, A', c', B', d', rfl, setRow_heap _ _ _ _ _ _ ZB.out, ⟨ZL.out, lt_row6 ZB.out, by have := UQ.out; omega, UQ.out.1, SS.out.1, le_row6 SS.out.2⟩, OR.rowOther6 OA.out ZB.out (by decide) _, OR.rowOther6 OB.out ZB.out (by decide) _, below_setRow (BV3.out) ZL.out _⟩
  case rest => as_aux_lemma =>
    obtain ⟨w5, hw5⟩ : ∃ w5, w5 = wc := ⟨_, rfl⟩
    subst hw5
    obtain ⟨b4, u0, s0, Aw, cw, Bw, dw, rfl, hk5, hz5, how, hov, hb5⟩ := hcut
    have X5 := Lib.hid hk5
    have Z5 := Lib.hid hz5
    have R5 := Lib.hid (R2.out.trans (hb5.mono R2.out.size))
    have SW5 : Hid (Sl w5 s0 w5.heap.size Aw m (fun k => .int .i64 (gi ys k))) := by have := OR.sl0 how; rw [Nat.mul_one] at this; exact this
    have SV5 : Hid (Sl w5 s0 w5.heap.size Bw m2 (fun k => .int .i64 (gi zs k))) := by have := OR.sl0 hov; rw [Nat.mul_one] at this; exact this
    have O25 := Lib.hid (show w1.heap.size ≤ w2.heap.size from R2.out.size)
    clear hk5 hz5 how hov hb5 SP RB q0 q1
    obtain ⟨q0, q1⟩ := QS.out w5 R5.out
    -- the queue that is handed
    go_wp2_with fail
    refine (TQ.out _ R5.out).mono ?_
    rintro e9 wq ⟨uz, rfl, hu, hm, hb⟩
    have RQ := Lib.hid (R5.out.trans (hb.mono R5.out.size))
    have MZ := Lib.hid hm
    have UZ := Lib.hid hu
    have GQ := Lib.hid hb
    clear hm hb q0 q1 hu
    obtain ⟨q0, q1⟩ := QS.out wq RQ.out
    go_wp2_with fail
    refine (TL.out _ RQ.out).mono ?_
    rintro e9 w6 ⟨u, rfl, hu, hm, hb⟩
    have R6 := Lib.hid (RQ.out.trans (hb.mono RQ.out.size))
    have M6 := Lib.hid hm
    have U6 := Lib.hid hu
    have G6 := Lib.hid hb
    clear hm hb q0 q1 hu
    obtain ⟨w7, hw7⟩ : ∃ w7, w7 = w6.alloc (.cells #[.int .i64 o, .slice (some ⟨u, 0, none⟩) n n] 26) := ⟨_, rfl⟩
    have X7 : Hid (w7.heap[w6.heap.size]? = some (.cells #[.int .i64 o, .slice (some ⟨u, 0, none⟩) n n] 26 (0, 0))) := by show _ = _; rw [hw7]; exact heap_alloc_new w6 _
    have N7 : Hid (Below w6.heap.size w6 w7) := by rw [hw7]; exact below_new w6 _
    have R7 := Lib.hid (R6.out.trans (N7.out.mono R6.out.size))
    have Z7 : Hid (w7.heap.size = w6.heap.size + 1) := by show _ = _; rw [hw7]; simp
    have M7 := Lib.hid (M6.out.below N7.out U6.out.2)
    have MZ7 := Lib.hid ((MZ.out.below G6.out UZ.out.2).below N7.out (by have := UZ.out; have := G6.out.size; omega))
    have HW7 := Lib.hid hw7
    clear hw7
    have x0 := cell_of_row w7 _ 0 _ _ _ X7.out; have x1 := cell_of_row w7 _ 1 _ _ _ X7.out
    simp at x0 x1
    go_upto_region 10 with (fail)
    rw [← HW7.out]
    clear HW7
    go_wp2_with fail
    refine (IP.out _ _ _ R7.out MZ7.out M7.out).mono ?_
    rintro e9 w8 ⟨Ag, cg, Bg, dg, rfl, hog, hoh, hap, hb⟩
    have G8 := Lib.hid hb
    have O8 := Lib.hid hog
    have P8 := Lib.hid hoh
    have AP := Lib.hid hap
    clear hb hog hoh hap x0 x1
    obtain ⟨w9, hw9⟩ : ∃ w9, w9 = w8.alloc (.cells #[.int .i64 rq, .bool rg, .int .i64 rn, .int .i64 ro, .slice Ag m cg, .slice Bg m2 dg] 30) := ⟨_, rfl⟩
    have X9 : Hid (w9.heap[w8.heap.size]? = some (.cells #[.int .i64 rq, .bool rg, .int .i64 rn, .int .i64 ro, .slice Ag m cg, .slice Bg m2 dg] 30 (0, 0))) := by show _ = _; rw [hw9]; exact heap_alloc_new w8 _
    have N9 : Hid (Below w8.heap.size w8 w9) := by rw [hw9]; exact below_new w8 _
    have RX := Lib.hid ((R7.out.trans (G8.out.mono R7.out.size)).trans (N9.out.mono (Nat.le_trans R7.out.size G8.out.size)))
    have Z9 : Hid (w9.heap.size = w8.heap.size + 1) := by show _ = _; rw [hw9]; simp
    have HW9 := Lib.hid hw9
    clear hw9
    have ORD := Lib.hid (show w1.heap.size ≤ u0 ∧ u0 < s0 ∧ s0 ≤ w5.heap.size ∧ w1.heap.size ≤ b4 ∧ b4 < w5.heap.size ∧ u0 ≠ b4 ∧ w5.heap.size ≤ uz ∧ uz < wq.heap.size ∧ wq.heap.size < u ∧ u < w6.heap.size ∧ w6.heap.size < w7.heap.size ∧ w7.heap.size ≤ w8.heap.size ∧ w8.heap.size < w9.heap.size by
      have := Z5.out; have := O25.out; have := UZ.out; have := U6.out; have := Z7.out; have := G8.out.size; have := Z9.out; omega)
    have BW := Lib.hid (((N9.out.block b4 (by have := ORD.out; omega)).trans ((G8.out.block b4 (by have := ORD.out; omega)).trans ((N7.out.block b4 (by have := ORD.out; omega)).trans ((G6.out.block b4 (by have := ORD.out; omega)).trans (GQ.out.block b4 (by have := ORD.out; omega)))))).trans X5.out)
    have XB := Lib.hid (((N9.out.block w6.heap.size (by have := ORD.out; omega)).trans (G8.out.block w6.heap.size (by have := ORD.out; omega))).trans X7.out)
    have XLT := Lib.hid (show w6.heap.size < w9.heap.size by have := ORD.out; omega)
    have XM9 := Lib.hid ((M7.out.below G8.out (by have := ORD.out; omega)).below N9.out (by have := ORD.out; omega))
    have XM := Lib.hid (XM9.out.sl.wide (Nat.zero_le _) (show u + 1 ≤ w9.heap.size by have := ORD.out; omega))
    have YM9 := Lib.hid ((MZ7.out.below G8.out (by have := ORD.out; omega)).below N9.out (by have := ORD.out; omega))
    have YM := Lib.hid (YM9.out.sl.wide (Nat.zero_le _) (show uz + 1 ≤ w9.heap.size by have := ORD.out; omega))
    have SW9 := Lib.hid (Sl.below (Sl.below (Sl.below (Sl.below (Sl.below SW5.out GQ.out (by have := ORD.out; omega)) G6.out (by have := ORD.out; omega)) N7.out (by have := ORD.out; omega)) G8.out (by have := ORD.out; omega)) N9.out (by have := ORD.out; omega))
    have SV9 := Lib.hid (Sl.below (Sl.below (Sl.below (Sl.below (Sl.below SV5.out GQ.out (by have := ORD.out; omega)) G6.out (by have := ORD.out; omega)) N7.out (by have := ORD.out; omega)) G8.out (by have := ORD.out; omega)) N9.out (by have := ORD.out; omega))
    obtain ⟨g, g2, hg, hg2, hne, hgm, hgn⟩ := two_rows (u := u) (v := u0) O8.out P8.out AP.out (by have := ORD.out; omega) (by have := ORD.out; omega) (by have := ORD.out; omega)
    have HG := Lib.hid hg; have HG2 := Lib.hid hg2; have NE := Lib.hid hne
    have MG9 := Lib.hid (hgm.below N9.out (by rcases hg with ⟨h, _⟩ | h <;> (have := ORD.out; omega)))
    have MH9 := Lib.hid (hgn.below N9.out (by rcases hg2 with ⟨h, _⟩ | h <;> (have := ORD.out; omega)))
    have GL := Lib.hid (show g < w9.heap.size ∧ g2 < w9.heap.size by have := ORD.out; omega)
    clear hg hg2 hne hgm hgn O8 P8 M7 X5 X7 SW5 SV5
    have QK : Hid (∀ W, Kept [uz, u, g, g2] w9 W → (W.cell? ⟨w.heap.size, 0, none⟩ = some (.int .i64 o) ∧ W.cell? ⟨w.heap.size, 1, none⟩ = some (.slice A n c)) ∧ (W.cell? ⟨b4, 0, none⟩ = some (.int .i64 rq) ∧ W.cell? ⟨b4, 1, none⟩ = some (.bool rg) ∧ W.cell? ⟨b4, 2, none⟩ = some (.int .i64 rn) ∧ W.cell? ⟨b4, 3, none⟩ = some (.int .i64 ro) ∧ W.cell? ⟨b4, 4, none⟩ = some (.slice Aw m cw) ∧ W.cell? ⟨b4, 5, none⟩ = some (.slice Bw m2 dw)) ∧ (W.cell? ⟨w6.heap.size, 0, none⟩ = some (.int .i64 o) ∧ W.cell? ⟨w6.heap.size, 1, none⟩ = some (.slice (some ⟨u, 0, none⟩) n n)) ∧ (W.cell? ⟨w8.heap.size, 0, none⟩ = some (.int .i64 rq) ∧ W.cell? ⟨w8.heap.size, 1, none⟩ = some (.bool rg) ∧ W.cell? ⟨w8.heap.size, 2, none⟩ = some (.int .i64 rn) ∧ W.cell? ⟨w8.heap.size, 3, none⟩ = some (.int .i64 ro) ∧ W.cell? ⟨w8.heap.size, 4, none⟩ = some (.slice Ag m cg) ∧ W.cell? ⟨w8.heap.size, 5, none⟩ = some (.slice Bg m2 dg)) ∧ Sl W s0 w5.heap.size Aw m (fun k => .int .i64 (gi ys k)) ∧ Sl W s0 w5.heap.size Bw m2 (fun k => .int .i64 (gi zs k))) := fun W hW => by
      have o := ORD.out
      have hgo := HG.out
      have hgp := HG2.out
      have z := Z1.out
      have j1 := hW.2 w.heap.size (by omega) (by simp; omega)
      have j2 := (hW.2 b4 (by omega) (by simp; omega)).trans BW.out
      have j3 := (hW.2 w6.heap.size (by omega) (by simp; omega)).trans XB.out
      have j4 := (hW.2 w8.heap.size (by omega) (by simp; omega)).trans X9.out
      have k1 := QS.out w9 RX.out
      refine ⟨⟨(cell?_block6 j1 0).trans k1.1, (cell?_block6 j1 1).trans k1.2⟩, ⟨cell_of_row W _ 0 _ _ _ j2, cell_of_row W _ 1 _ _ _ j2, cell_of_row W _ 2 _ _ _ j2, cell_of_row W _ 3 _ _ _ j2, cell_of_row W _ 4 _ _ _ j2, cell_of_row W _ 5 _ _ _ j2⟩, ⟨cell_of_row W _ 0 _ _ _ j3, cell_of_row W _ 1 _ _ _ j3⟩, ⟨cell_of_row W _ 0 _ _ _ j4, cell_of_row W _ 1 _ _ _ j4, cell_of_row W _ 2 _ _ _ j4, cell_of_row W _ 3 _ _ _ j4, cell_of_row W _ 4 _ _ _ j4, cell_of_row W _ 5 _ _ _ j4⟩, Sl.kept SW9.out hW (fun b hb => ?_), Sl.kept SV9.out hW (fun b hb => ?_)⟩
      · simp at hb
        rcases hb with rfl | rfl | rfl | rfl <;> omega
      · simp at hb
        rcases hb with rfl | rfl | rfl | rfl <;> omega
    have FK : Hid (∀ W, Kept [uz, u, g, g2] w9 W → Below w1.heap.size w1 W) := fun W hW => by
      have o := ORD.out
      have hgo := HG.out
      have hgp := HG2.out
      exact RX.out.trans (hW.below RX.out.size (fun b hb => by simp at hb; rcases hb with rfl | rfl | rfl | rfl <;> omega))
    have SMm := Lib.hid (show m ≤ 2000000 ∧ m2 ≤ 2000000 by have := HM.out; omega)
    have W3 := Lib.hid (show w5.heap.size ≤ w9.heap.size by have := ORD.out; omega)
    obtain ⟨⟨q0, q1⟩, ⟨p0, p1, p2, p3, p4, p5⟩, ⟨x0, x1⟩, ⟨y0, y1, y2, y3, y4, y5⟩, sw, sv⟩ := QK.out w9 (Kept.refl _ _)
    go_upto_region 11 with (fail)
    rw [← HW9.out]
    clear HW9
    go_wp2_with fail
    refine (eqLR_own Ag Aw Bg Bw m m2 cg cw dg dw rq rn ro rg ys zs _ SMm.out.1 SMm.out.2 (MG9.out.sl.wide (Nat.zero_le _) (by have := GL.out; omega)) (SW9.out.wide (Nat.zero_le _) W3.out) (MH9.out.sl.wide (Nat.zero_le _) (by have := GL.out; omega)) (SV9.out.wide (Nat.zero_le _) W3.out)).mono ?_
    rintro e9 wa0 ⟨rfl, hb⟩
    have KA0 := Lib.hid (Kept.of_below hb [uz, u, g, g2])
    have RA0 := Lib.hid (RX.out.trans (hb.mono RX.out.size))
    have YMA := Lib.hid ((YM.out.below hb (Nat.le_refl _)).wide (Nat.le_refl _) hb.size)
    have B90 := Lib.hid hb
    clear hb q0 q1 p0 p1 p2 p3 p4 p5 x0 x1 y0 y1 y2 y3 y4 y5 sw sv
    -- the queue is as it was
    have AK : Hid (Calls Tryd.prog 38 #[.slice Q k d] wa0 fun e w' => ∃ y, e = .returned (.slice (some ⟨y, 0, none⟩) k k) ∧ Sl w' 0 w'.heap.size (some ⟨y, 0, none⟩) k (fun j => .int .i64 (gi zq j)) ∧ Below wa0.heap.size wa0 w') :=
      (TQ.out _ RA0.out).mono fun e w' ⟨y, he, hy, hm, hb⟩ => ⟨y, he, hm.sl.wide (by omega) (by omega), hb⟩
    go_wp2_with fail
    refine AK.out.mono ?_
    rintro e9 wa1 ⟨y, rfl, hkr, hba⟩
    have KR1 := Lib.hid hkr
    have BA1 := Lib.hid hba
    clear hkr hba AK
    go_wp2_with fail
    refine (eqInt64S_same 0 wa0.heap.size 0 wa1.heap.size _ _ k k k (gi zq) _ (by have := K20.out; omega) (YMA.out.below BA1.out (Nat.le_refl _)) KR1.out).mono ?_
    rintro e9 wa ⟨rfl, hb0⟩
    have BA := Lib.hid (B90.out.trans ((BA1.out.trans (hb0.mono BA1.out.size)).mono B90.out.size))
    have KA := Lib.hid (Kept.of_below BA.out [uz, u, g, g2])
    have RA := Lib.hid (RX.out.trans (BA.out.mono RX.out.size))
    have XBA := Lib.hid ((BA.out.block w6.heap.size XLT.out).trans XB.out)
    have XLTA := Lib.hid (Nat.lt_of_lt_of_le XLT.out BA.out.size)
    have XMA := Lib.hid ((XM.out.below BA.out (Nat.le_refl _)).wide (Nat.le_refl _) BA.out.size)
    have XM9A := Lib.hid (XM9.out.below BA.out (by have := ORD.out; omega))
    have YM9A := Lib.hid (YM9.out.below BA.out (by have := ORD.out; omega))
    have MGA := Lib.hid (MG9.out.below BA.out GL.out.1)
    have MHA := Lib.hid (MH9.out.below BA.out GL.out.2)
    have SZA := Lib.hid BA.out.size
    clear hb0 XB XM XM9 XLT MG9 MH9 SW9 SV9 YM YM9 KR1 BA1 B90 KA0 RA0 YMA BA
    obtain ⟨⟨q0, q1⟩, ⟨p0, p1, p2, p3, p4, p5⟩, ⟨x0, x1⟩, ⟨y0, y1, y2, y3, y4, y5⟩, sw, sv⟩ := QK.out wa KA.out
    have KT : Hid (∀ W, Below wa.heap.size wa W → (W.cell? ⟨w6.heap.size, 0, none⟩ = some (.int .i64 o) ∧ W.cell? ⟨w6.heap.size, 1, none⟩ = some (.slice (some ⟨u, 0, none⟩) n n)) ∧ (W.cell? ⟨w.heap.size, 0, none⟩ = some (.int .i64 o) ∧ W.cell? ⟨w.heap.size, 1, none⟩ = some (.slice A n c)) ∧ Below wa.heap.size wa W) := fun W hW => by
      have j := (hW.block w6.heap.size (XLTA.out)).trans XBA.out
      exact ⟨⟨cell_of_row W _ 0 _ _ _ j, cell_of_row W _ 1 _ _ _ j⟩, QS.out W (RA.out.trans (hW.mono RA.out.size)), hW⟩
    have PT : Hid (∀ W, ((W.cell? ⟨w6.heap.size, 0, none⟩ = some (.int .i64 o) ∧ W.cell? ⟨w6.heap.size, 1, none⟩ = some (.slice (some ⟨u, 0, none⟩) n n)) ∧ (W.cell? ⟨w.heap.size, 0, none⟩ = some (.int .i64 o) ∧ W.cell? ⟨w.heap.size, 1, none⟩ = some (.slice A n c)) ∧ Below wa.heap.size wa W) → Below wa.heap.size wa W) := fun W hh => hh.2.2
    have AK : Hid (∀ W, Below wa.heap.size wa W → Calls Tryd.prog 36 #[.agg #[.int .i64 o, .slice A n c]] W fun e w' => ∃ y, e = .returned (.agg #[.int .i64 o, .slice (some ⟨y, 0, none⟩) n n]) ∧ Sl w' 0 w'.heap.size (some ⟨y, 0, none⟩) n (fun k => .int .i64 (gi xs k)) ∧ Below wa.heap.size wa w') := fun W hB =>
      (TK.out W (RA.out.trans (hB.mono RA.out.size)) H20.out).mono fun e w' ⟨y, he, hy, hm, hb⟩ => ⟨y, he, hm.sl.wide (by omega) (by omega), hB.trans (hb.mono hB.size)⟩
    have EK : Hid (∀ W y, Below wa.heap.size wa W → Sl W 0 W.heap.size (some ⟨y, 0, none⟩) n (fun k => .int .i64 (gi xs k)) → Calls Tryd.prog 37 #[.agg #[.int .i64 o, .slice (some ⟨u, 0, none⟩) n n], .agg #[.int .i64 o, .slice (some ⟨y, 0, none⟩) n n]] W fun e w' => e = .returned (.bool true) ∧ Below wa.heap.size wa w') := fun W y hB hk =>
      (eqLock_same 0 wa.heap.size 0 W.heap.size _ _ n n n o (gi xs) W (by have := H20.out; omega) (XMA.out.below hB (Nat.le_refl _)) hk).mono fun e w' ⟨h1, h2⟩ => ⟨h1, hB.trans (h2.mono hB.size)⟩
    have R0 : Hid (Below wa.heap.size wa wa) := Below.refl _ _
    go_upto_region 15 with (fail)
    go_region_held3 (fun W => (W.cell? ⟨w6.heap.size, 0, none⟩ = some (.int .i64 o) ∧ W.cell? ⟨w6.heap.size, 1, none⟩ = some (.slice (some ⟨u, 0, none⟩) n n)) ∧ (W.cell? ⟨w.heap.size, 0, none⟩ = some (.int .i64 o) ∧ W.cell? ⟨w.heap.size, 1, none⟩ = some (.slice A n c)) ∧ Below wa.heap.size wa W) (first | with_reducible exact KT.out _ (by assumption) | exact KT.out _ (Below.drew (Below.refl _ _))) (first | (go_at_call 36; with_reducible refine (AK.out _ (PT.out _ (by assumption))).mono ?_; rintro e9 wa' ⟨y, rfl, hkr, hba⟩) | (go_at_call 37; with_reducible refine (EK.out _ _ (PT.out _ (by assumption)) (by assumption)).mono ?_; rintro e9 wb ⟨rfl, hbb⟩))
    have KB := Lib.hid (Kept.trans KA.out (Kept.of_below hbb [uz, u, g, g2]))
    have SZB := Lib.hid (Nat.le_trans SZA.out hbb.size)
    have XMB := Lib.hid (XM9A.out.below hbb (by have := ORD.out; have := SZA.out; omega))
    have YMB := Lib.hid (YM9A.out.below hbb (by have := ORD.out; have := SZA.out; omega))
    have MGB := Lib.hid (MGA.out.below hbb (by have := GL.out; have := SZA.out; omega))
    have MHB := Lib.hid (MHA.out.below hbb (by have := GL.out; have := SZA.out; omega))
    clear hba hkr hbb KT PT AK EK R0 q0 q1 p0 p1 p2 p3 p4 p5 x0 x1 y0 y1 y2 y3 y4 y5 sw sv
    obtain ⟨⟨q0, q1⟩, ⟨p0, p1, p2, p3, p4, p5⟩, ⟨x0, x1⟩, ⟨y0, y1, y2, y3, y4, y5⟩, sw, sv⟩ := QK.out wb KB.out
    -- what was handed is marked
    go_wp2_with fail
    refine (markInt64S_any uz (uz + 1) _ k k _ 1 _ (by have := K20.out; omega) (by omega) (fun j _ => ⟨_, rfl⟩) YMB.out).mono ?_
    rintro e9 wc0 ⟨rfl, _, hk0⟩
    have hk := Kept.of_only6 hk0
    have KC0 := Lib.hid (Kept.trans KB.out (hk.mono (gs' := [uz, u, g, g2]) (fun b hb _ => by simp at hb; simp [hb])))
    have SZC0 := Lib.hid (Nat.le_trans SZB.out hk.1.size)
    have XMC : Hid (Mine wc0 u (u + 1) 2 (some ⟨u, 0, none⟩) n (fun k => .int .i64 (gi xs k))) := Mine.kept XMB.out hk (by simp; have := ORD.out; omega)
    have MGC0 : Hid (Mine wc0 g (g + 1) 2 Ag m (fun k => .int .i64 (gi ys k))) := by
      rcases HG.out with ⟨_, h0⟩ | ⟨h1, h2⟩
      · exact .inl (by omega)
      · exact Mine.kept MGB.out hk (by simp; have := ORD.out; omega)
    have MHC0 : Hid (Mine wc0 g2 (g2 + 1) 2 Bg m2 (fun k => .int .i64 (gi zs k))) := by
      rcases HG2.out with ⟨_, h0⟩ | ⟨h1, h2⟩
      · exact .inl (by omega)
      · exact Mine.kept MHB.out hk (by simp; have := ORD.out; omega)
    obtain ⟨tk0, htk0⟩ : ∃ tk : Nat, tk = 1 + k := ⟨_, rfl⟩
    rw [← htk0]
    have HT0 := Lib.hid (show tk0 ≤ 1048577 by have := K20.out; omega)
    clear htk0 hk hk0 q0 q1 p0 p1 p2 p3 p4 p5 x0 x1 y0 y1 y2 y3 y4 y5 sw sv XMB YMB MGB MHB
    obtain ⟨⟨q0, q1⟩, ⟨p0, p1, p2, p3, p4, p5⟩, ⟨x0, x1⟩, ⟨y0, y1, y2, y3, y4, y5⟩, sw, sv⟩ := QK.out wc0 KC0.out
    go_wp2_with fail
    refine (markLock_any u _ n n tk0 o (gi xs) _ (by have := H20.out; omega) (by have := HT0.out; omega) XMC.out (by have := ORD.out; have := SZC0.out; omega)).mono ?_
    rintro e9 wc ⟨rfl, _, hk⟩
    have KC := Lib.hid (Kept.trans KC0.out (hk.mono (gs' := [uz, u, g, g2]) (fun b hb _ => by simp at hb; simp [hb])))
    have SZC := Lib.hid (Nat.le_trans SZC0.out hk.1.size)
    have MGC : Hid (Mine wc g (g + 1) 2 Ag m (fun k => .int .i64 (gi ys k))) := by
      rcases HG.out with ⟨_, h0⟩ | ⟨h1, h2⟩
      · exact .inl (by omega)
      · exact Mine.kept MGC0.out hk (by simp; have := ORD.out; omega)
    have MHC : Hid (Mine wc g2 (g2 + 1) 2 Bg m2 (fun k => .int .i64 (gi zs k))) := by
      rcases HG2.out with ⟨_, h0⟩ | ⟨h1, h2⟩
      · exact .inl (by omega)
      · exact Mine.kept MHC0.out hk (by simp; have := ORD.out; omega)
    obtain ⟨tk, htk⟩ : ∃ tk : Nat, tk = tk0 + n := ⟨_, rfl⟩
    rw [← htk]
    have t0 : ((tk : Int) < 0) = False := by simp
    have t0' : ¬ ((tk : Int) < 0) := by omega
    clear htk hk q0 q1 p0 p1 p2 p3 p4 p5 x0 x1 y0 y1 y2 y3 y4 y5 sw sv XMC MGC0 MHC0
    obtain ⟨⟨q0, q1⟩, ⟨p0, p1, p2, p3, p4, p5⟩, ⟨x0, x1⟩, ⟨y0, y1, y2, y3, y4, y5⟩, sw, sv⟩ := QK.out wc KC.out
    go_wp2_with fail
    refine (eqLR_own Ag Aw Bg Bw m m2 cg cw dg dw rq rn ro rg ys zs _ SMm.out.1 SMm.out.2 (MGC.out.sl.wide (Nat.zero_le _) (by have := GL.out; have := SZC.out; omega)) (sw.wide (Nat.zero_le _) (by have := W3.out; have := SZC.out; omega)) (MHC.out.sl.wide (Nat.zero_le _) (by have := GL.out; have := SZC.out; omega)) (sv.wide (Nat.zero_le _) (by have := W3.out; have := SZC.out; omega))).mono ?_
    rintro e9 wd ⟨rfl, hb⟩
    have KD := Lib.hid (KC.out.then_below hb)
    have SZD := Lib.hid (Nat.le_trans SZC.out hb.size)
    have MGD := Lib.hid (MGC.out.below hb (by have := GL.out; have := SZC.out; omega))
    have MHD := Lib.hid (MHC.out.below hb (by have := GL.out; have := SZC.out; omega))
    clear hb t0 t0' q0 q1 p0 p1 p2 p3 p4 p5 x0 x1 y0 y1 y2 y3 y4 y5 sw sv MGC MHC
    obtain ⟨⟨q0, q1⟩, ⟨p0, p1, p2, p3, p4, p5⟩, ⟨x0, x1⟩, ⟨y0, y1, y2, y3, y4, y5⟩, sw, sv⟩ := QK.out wd KD.out
    go_wp2_with fail
    refine (markLR_own g g2 Ag Bg m m2 cg dg rq rn ro rg ys zs _ SMm.out.1 SMm.out.2 MGD.out (by have := GL.out; have := SZD.out; omega) MHD.out (by have := GL.out; have := SZD.out; omega) NE.out).mono ?_
    rintro e9 we ⟨rfl, hm, hm', hk⟩
    have KE := Lib.hid (Kept.trans KD.out (hk.mono (gs' := [uz, u, g, g2]) (fun b hb _ => by simp at hb; rcases hb with rfl | rfl <;> simp)))
    have SZE := Lib.hid (Nat.le_trans SZD.out hk.1.size)
    have MK := Lib.hid hm
    have MK2 := Lib.hid hm'
    have GLE := Lib.hid (show g < we.heap.size ∧ g2 < we.heap.size by have := GL.out; have := SZE.out; omega)
    have HE : Hid (∀ W, Below we.heap.size we W → Calls Tryd.prog 43 #[.agg #[.int .i64 rq, .bool rg, .int .i64 rn, .int .i64 ro, .slice Ag m cg, .slice Bg m2 dg], .int .i64 1] W fun e w' => e = .returned (.int .i64 ((1 + m + m2 : Nat) : Int)) ∧ Below we.heap.size we w') := fun W hW =>
      (heldLR_own Ag Bg m m2 cg dg rq rn ro rg W SMm.out.1 SMm.out.2 ((MK.out.below hW GLE.out.1).sl.wide (Nat.zero_le _) (by have := GLE.out; have := hW.size; omega)) ((MK2.out.below hW GLE.out.2).sl.wide (Nat.zero_le _) (by have := GLE.out; have := hW.size; omega))).mono fun e w' ⟨h1, h2⟩ => ⟨h1, hW.trans (h2.mono hW.size)⟩
    obtain ⟨tot, ht⟩ : ∃ tot : Nat, tot = 1 + m + m2 := ⟨_, rfl⟩
    rw [← ht] at HE ⊢
    have t1 : ((tot : Int) < 0) = False := by simp
    have t1' : ¬ ((tot : Int) < 0) := by omega
    have t2 : ((tot : Int) != (tot : Int)) = false := by simp
    clear ht hm hm' hk q0 q1 p0 p1 p2 p3 p4 p5 x0 x1 y0 y1 y2 y3 y4 y5 sw sv MGD MHD
    obtain ⟨⟨q0, q1⟩, ⟨p0, p1, p2, p3, p4, p5⟩, ⟨x0, x1⟩, ⟨y0, y1, y2, y3, y4, y5⟩, sw, sv⟩ := QK.out we KE.out
    go_wp2_with fail
    refine (HE.out _ (Below.refl _ _)).mono ?_
    rintro e9 wf ⟨rfl, hb⟩
    have BF := Lib.hid hb
    have KF := Lib.hid (KE.out.then_below hb)
    have RB := Lib.hid (FK.out _ KF.out)
    have ZF := Lib.hid (show w9.heap.size ≤ wf.heap.size by have := SZE.out; have := hb.size; omega)
    clear hb q0 q1 p0 p1 p2 p3 p4 p5 x0 x1 y0 y1 y2 y3 y4 y5 sw sv
    -- once more
    go_upto_region 30 with (fail)
    obtain ⟨q0, q1⟩ := QS.out wf RB.out
    go_cut [13] from 73 (fun x13 wx => ∃ (b6 uq s0 : Nat) (A' : Option Addr) (c' : Nat) (B' : Option Addr) (d' : Nat), x13 = .pointer (some ⟨b6, 0, none⟩) ∧ wx.heap[b6]? = some (.cells #[.int .i64 rq, .bool rg, .int .i64 rn, .int .i64 ro, .slice A' m c', .slice B' m2 d'] 30 (0, 0)) ∧ (wf.heap.size ≤ b6 ∧ b6 < wx.heap.size ∧ uq ≠ b6 ∧ wf.heap.size ≤ uq ∧ uq < s0 ∧ s0 ≤ wx.heap.size) ∧ OR 2 1 wx s0 A' m c' ys ∧ OR 2 1 wx s0 B' m2 d' zs ∧ Below wf.heap.size wf wx)
    case first => as_aux_lemma =>
      refine wp_region_held_drew (S := fun W => W.cell? ⟨w.heap.size, 0, none⟩ = some (.int .i64 o) ∧ W.cell? ⟨w.heap.size, 1, none⟩ = some (.slice A n c)) (by kernel_rfl) (QS.out _ RB.out.drew) (fun hHeld => ?_)
      obtain ⟨v0, hv0⟩ : ∃ v0, v0 = wf.drew := ⟨_, rfl⟩
      have BL0 : Hid (Below wf.heap.size wf v0) := by rw [hv0]; exact Below.drew (Below.refl _ _)
      rw [← hv0] at hHeld ⊢
      clear hv0
      refine wpAnyH_take (i := 0) (oi := _) (v := ?_) rfl (by kernel_rfl) (by kernel_rfl) (by kernel_rfl) (fun _ _ _ h => h) (Or.inl ⟨by rfl, ?_⟩) hHeld ?_
      rotate_left
      · (intro w hSw; (try dsimp only at hSw); go_simp; try with_reducible rfl)
      try simp only [Act.put, List.getElem_toArray, List.getElem_cons_succ, List.getElem_cons_zero, List.setIfInBounds_toArray, List.set_cons_zero, List.set_cons_succ]
      refine wpAnyH_take (i := 2) (oi := _) (v := ?_) rfl (by kernel_rfl) (by kernel_rfl) (by kernel_rfl) (fun _ _ _ h => h) (Or.inl ⟨by rfl, ?_⟩) hHeld ?_
      rotate_left
      · (intro w hSw; (try dsimp only at hSw); go_simp; try with_reducible rfl)
      try simp only [Act.put, List.getElem_toArray, List.getElem_cons_succ, List.getElem_cons_zero, List.setIfInBounds_toArray, List.set_cons_zero, List.set_cons_succ]
      refine wpAnyH_ready (rs := [1, 5]) (by kernel_rfl) (by simp) ?_
      refine AllReadyH.cons (o := _) rfl (fun K0 hK0 => ?_) (AllReadyH.cons (o := _) rfl (fun K0 hK0 => ?_) AllReadyH.nil)
      · go_simp
        refine (TQ.out _ (RB.out.trans ((BL0.out).mono RB.out.size))).mono ?_
        rintro e9 v1 ⟨uq, rfl, hu, hm, hb⟩
        go_wp2_with fail
        have BV1 := Lib.hid ((BL0.out).trans (hb.mono (BL0.out).size))
        have MQ := Lib.hid hm
        have UQ := Lib.hid (show wf.heap.size ≤ uq ∧ uq < v1.heap.size by have := (BL0.out).size; omega)
        clear hu hm hb
        refine hK0.out _ _ (QS.out _ (RB.out.trans ((BV1.out).mono RB.out.size))) (fun hHeld => ?_)
        clear hK0 K0
        try simp only [Act.put, List.getElem_toArray, List.getElem_cons_succ, List.getElem_cons_zero, List.setIfInBounds_toArray, List.set_cons_zero, List.set_cons_succ]
        refine wpAnyH_ready (rs := [3, 5]) (by kernel_rfl) (by simp) ?_
        refine AllReadyH.cons (o := _) rfl (fun K0 hK0 => ?_) (AllReadyH.cons (o := _) rfl (fun K0 hK0 => ?_) AllReadyH.nil)
        · go_simp
          refine (TL.out _ (RB.out.trans ((BV1.out).mono RB.out.size))).mono ?_
          rintro e9 v2 ⟨ul, rfl, hu, hm, hb⟩
          go_wp2_with fail
          have BV2 := Lib.hid ((BV1.out).trans (hb.mono (BV1.out).size))
          have ML := Lib.hid hm
          have UL := Lib.hid (show ul < v2.heap.size from hu.2)
          have MQ := Lib.hid (MQ.out.below hb (by have := UQ.out; omega))
          have UQ := Lib.hid (show wf.heap.size ≤ uq ∧ uq < v2.heap.size by have := UQ.out; have := hb.size; omega)
          clear hu hm hb
          refine hK0.out _ _ (QS.out _ (RB.out.trans ((BV2.out).mono RB.out.size))) (fun hHeld => ?_)
          clear hK0 K0
          try simp only [Act.put, List.getElem_toArray, List.getElem_cons_succ, List.getElem_cons_zero, List.setIfInBounds_toArray, List.set_cons_zero, List.set_cons_succ]
          refine wpAnyH_ready (rs := [4, 5]) (by kernel_rfl) (by simp) ?_
          refine AllReadyH.cons (o := _) rfl (fun K0 hK0 => ?_) (AllReadyH.cons (o := _) rfl (fun K0 hK0 => ?_) AllReadyH.nil)
          · go_simp
            refine (IP.out _ _ _ (RB.out.trans ((BV2.out).mono RB.out.size)) MQ.out ML.out).mono ?_
            rintro e9 v3 ⟨A', c', B', d', rfl, ho, ho2, hap, hb⟩
            go_wp2_with fail
            have BV3 := Lib.hid ((BV2.out).trans (hb.mono (BV2.out).size))
            obtain ⟨s0, hs0⟩ : ∃ s, s = v2.heap.size := ⟨_, rfl⟩
            rw [← hs0] at ho ho2
            have OA := Lib.hid ho
            have OB := Lib.hid ho2
            have SS := Lib.hid (show uq < s0 ∧ s0 ≤ v3.heap.size by have := UQ.out; have := hb.size; omega)
            have UQ := Lib.hid (show wf.heap.size ≤ uq ∧ uq < v3.heap.size by have := UQ.out; have := hb.size; omega)
            have ML := Lib.hid (ML.out.below hb UL.out)
            have UL := Lib.hid (show ul < v3.heap.size by have := UL.out; have := hb.size; omega)
            have MQ := Lib.hid (MQ.out.below hb (by have := SS.out; omega))
            clear ho ho2 hap hb hs0
            refine hK0.out _ _ (QS.out _ (RB.out.trans ((BV3.out).mono RB.out.size))) (fun hHeld => ?_)
            clear hK0 K0
            try simp only [Act.put, List.getElem_toArray, List.getElem_cons_succ, List.getElem_cons_zero, List.setIfInBounds_toArray, List.set_cons_zero, List.set_cons_succ]
            refine wpAnyH_ready (rs := [5]) (by kernel_rfl) (by simp) ?_
            refine AllReadyH.cons (o := _) rfl (fun K0 hK0 => ?_) AllReadyH.nil
            go_simp
            obtain ⟨y3, hy3⟩ : ∃ y, y = v3.alloc (.cells #[.int .i64 0, .bool false, .int .i64 0, .int .i64 0, .slice none 0 0, .slice none 0 0] 30) := ⟨_, rfl⟩
            obtain ⟨bx, hbx⟩ : ∃ b, b = v3.heap.size := ⟨_, rfl⟩
            rw [← hy3, ← hbx]
            have ZB := Lib.hid (show y3.heap[bx]? = some (.cells #[.int .i64 0, .bool false, .int .i64 0, .int .i64 0, .slice none 0 0, .slice none 0 0] 30 (0, 0)) by rw [hy3, hbx]; exact heap_alloc_new _ _)
            have ZL := Lib.hid (show wf.heap.size ≤ bx by rw [hbx]; exact (BV3.out).size)
            have BY3 := Lib.hid (show Below wf.heap.size wf y3 by rw [hy3]; exact (BV3.out).alloc (BV3.out).size _)
            have NX := Lib.hid (show Below v3.heap.size v3 y3 by rw [hy3]; exact below_new _ _)
            have NE := Lib.hid (show bx = v3.heap.size ∧ y3.heap.size = bx + 1 by rw [hy3, hbx]; exact ⟨rfl, by simp⟩)
            have MQ := Lib.hid (MQ.out.below NX.out (by have := UQ.out; omega))
            have UQ := Lib.hid (show wf.heap.size ≤ uq ∧ uq < y3.heap.size ∧ uq ≠ bx by have := UQ.out; have := NE.out; omega)
            have ML := Lib.hid (ML.out.below NX.out (by have := UL.out; omega))
            have UL := Lib.hid (show ul < y3.heap.size by have := UL.out; have := NE.out; omega)
            have OA := Lib.hid (OA.out.below NX.out (Nat.le_refl _))
            have OB := Lib.hid (OB.out.below NX.out (Nat.le_refl _))
            have SS := Lib.hid (show uq < s0 ∧ s0 ≤ y3.heap.size by have := SS.out; have := NX.out.size; omega)
            clear hy3 hbx NX
            refine hK0.out _ _ (QS.out _ (RB.out.trans ((BY3.out).mono RB.out.size))) (fun hHeld => ?_)
            clear hK0 K0
            try simp only [Act.put, List.getElem_toArray, List.getElem_cons_succ, List.getElem_cons_zero, List.setIfInBounds_toArray, List.set_cons_zero, List.set_cons_succ]
            refine wpAnyH_ready (rs := [6]) (by kernel_rfl) (by simp) ?_
            refine AllReadyH.cons (o := _) rfl (fun K0 hK0 => ?_) AllReadyH.nil
            clear hHeld
            rw [if_pos (by rfl)]
            refine wp_store_row 30 _ _ rfl (bx) _ rfl rfl 30 _ ZB.out (by kernel_rfl) rfl (by simp [Value.oneCell']) ?_
            refine hK0.out _ _ (QS.out _ (RB.out.trans (((below_setRow (BY3.out) ZL.out _)).mono RB.out.size))) (fun hHeld => ?_)
            clear hK0 K0
            try simp only [Act.put, List.getElem_toArray, List.getElem_cons_succ, List.getElem_cons_zero, List.setIfInBounds_toArray, List.set_cons_zero, List.set_cons_succ]
            refine wpAnyH_done (by kernel_rfl) ?_ _
            go_wp2_with fail
            go_meet
            case rel => exact ⟨bx, uq, s0, A', c', B', d', rfl, setRow_heap _ _ _ _ _ _ ZB.out, ⟨ZL.out, lt_row6 ZB.out, by have := UQ.out; omega, UQ.out.1, SS.out.1, le_row6 SS.out.2⟩, OR.rowOther6 OA.out ZB.out (by decide) _, OR.rowOther6 OB.out ZB.out (by decide) _, below_setRow (BY3.out) ZL.out _⟩
          · go_simp
            obtain ⟨y2, hy2⟩ : ∃ y, y = v2.alloc (.cells #[.int .i64 0, .bool false, .int .i64 0, .int .i64 0, .slice none 0 0, .slice none 0 0] 30) := ⟨_, rfl⟩
            obtain ⟨bx, hbx⟩ : ∃ b, b = v2.heap.size := ⟨_, rfl⟩
            rw [← hy2, ← hbx]
            have ZB := Lib.hid (show y2.heap[bx]? = some (.cells #[.int .i64 0, .bool false, .int .i64 0, .int .i64 0, .slice none 0 0, .slice none 0 0] 30 (0, 0)) by rw [hy2, hbx]; exact heap_alloc_new _ _)
            have ZL := Lib.hid (show wf.heap.size ≤ bx by rw [hbx]; exact (BV2.out).size)
            have BY2 := Lib.hid (show Below wf.heap.size wf y2 by rw [hy2]; exact (BV2.out).alloc (BV2.out).size _)
            have NX := Lib.hid (show Below v2.heap.size v2 y2 by rw [hy2]; exact below_new _ _)
            have NE := Lib.hid (show bx = v2.heap.size ∧ y2.heap.size = bx + 1 by rw [hy2, hbx]; exact ⟨rfl, by simp⟩)
            have MQ := Lib.hid (MQ.out.below NX.out (by have := UQ.out; omega))
            have UQ := Lib.hid (show wf.heap.size ≤ uq ∧ uq < y2.heap.size ∧ uq ≠ bx by have := UQ.out; have := NE.out; omega)
            have ML := Lib.hid (ML.out.below NX.out (by have := UL.out; omega))
            have UL := Lib.hid (show ul < y2.heap.size by have := UL.out; have := NE.out; omega)
            clear hy2 hbx NX
            refine hK0.out _ _ (QS.out _ (RB.out.trans ((BY2.out).mono RB.out.size))) (fun hHeld => ?_)
            clear hK0 K0
            try simp only [Act.put, List.getElem_toArray, List.getElem_cons_succ, List.getElem_cons_zero, List.setIfInBounds_toArray, List.set_cons_zero, List.set_cons_succ]
            refine wpAnyH_ready (rs := [4]) (by kernel_rfl) (by simp) ?_
            refine AllReadyH.cons (o := _) rfl (fun K0 hK0 => ?_) AllReadyH.nil
            go_simp
            refine (IP.out _ _ _ (RB.out.trans ((BY2.out).mono RB.out.size)) MQ.out ML.out).mono ?_
            rintro e9 v3 ⟨A', c', B', d', rfl, ho, ho2, hap, hb⟩
            go_wp2_with fail
            have BV3 := Lib.hid ((BY2.out).trans (hb.mono (BY2.out).size))
            obtain ⟨s0, hs0⟩ : ∃ s, s = y2.heap.size := ⟨_, rfl⟩
            rw [← hs0] at ho ho2
            have OA := Lib.hid ho
            have OB := Lib.hid ho2
            have SS := Lib.hid (show uq < s0 ∧ s0 ≤ v3.heap.size by have := UQ.out; have := hb.size; omega)
            have UQ := Lib.hid (show wf.heap.size ≤ uq ∧ uq < v3.heap.size ∧ uq ≠ bx by have := UQ.out; have := hb.size; omega)
            have ML := Lib.hid (ML.out.below hb UL.out)
            have UL := Lib.hid (show ul < v3.heap.size by have := UL.out; have := hb.size; omega)
            have MQ := Lib.hid (MQ.out.below hb (by have := SS.out; omega))
            have ZB := Lib.hid ((hb.block bx (Array.getElem?_eq_some_iff.1 ZB.out).1).trans ZB.out)
            clear ho ho2 hap hb hs0
            refine hK0.out _ _ (QS.out _ (RB.out.trans ((BV3.out).mono RB.out.size))) (fun hHeld => ?_)
            clear hK0 K0
            try simp only [Act.put, List.getElem_toArray, List.getElem_cons_succ, List.getElem_cons_zero, List.setIfInBounds_toArray, List.set_cons_zero, List.set_cons_succ]
            refine wpAnyH_ready (rs := [6]) (by kernel_rfl) (by simp) ?_
            refine AllReadyH.cons (o := _) rfl (fun K0 hK0 => ?_) AllReadyH.nil
            clear hHeld
            rw [if_pos (by rfl)]
            refine wp_store_row 30 _ _ rfl (bx) _ rfl rfl 30 _ ZB.out (by kernel_rfl) rfl (by simp [Value.oneCell']) ?_
            refine hK0.out _ _ (QS.out _ (RB.out.trans (((below_setRow (BV3.out) ZL.out _)).mono RB.out.size))) (fun hHeld => ?_)
            clear hK0 K0
            try simp only [Act.put, List.getElem_toArray, List.getElem_cons_succ, List.getElem_cons_zero, List.setIfInBounds_toArray, List.set_cons_zero, List.set_cons_succ]
            refine wpAnyH_done (by kernel_rfl) ?_ _
            go_wp2_with fail
            go_meet
            case rel => exact ⟨bx, uq, s0, A', c', B', d', rfl, setRow_heap _ _ _ _ _ _ ZB.out, ⟨ZL.out, lt_row6 ZB.out, by have := UQ.out; omega, UQ.out.1, SS.out.1, le_row6 SS.out.2⟩, OR.rowOther6 OA.out ZB.out (by decide) _, OR.rowOther6 OB.out ZB.out (by decide) _, below_setRow (BV3.out) ZL.out _⟩
        · go_simp
          obtain ⟨y1, hy1⟩ : ∃ y, y = v1.alloc (.cells #[.int .i64 0, .bool false, .int .i64 0, .int .i64 0, .slice none 0 0, .slice none 0 0] 30) := ⟨_, rfl⟩
          obtain ⟨bx, hbx⟩ : ∃ b, b = v1.heap.size := ⟨_, rfl⟩
          rw [← hy1, ← hbx]
          have ZB := Lib.hid (show y1.heap[bx]? = some (.cells #[.int .i64 0, .bool false, .int .i64 0, .int .i64 0, .slice none 0 0, .slice none 0 0] 30 (0, 0)) by rw [hy1, hbx]; exact heap_alloc_new _ _)
          have ZL := Lib.hid (show wf.heap.size ≤ bx by rw [hbx]; exact (BV1.out).size)
          have BY1 := Lib.hid (show Below wf.heap.size wf y1 by rw [hy1]; exact (BV1.out).alloc (BV1.out).size _)
          have NX := Lib.hid (show Below v1.heap.size v1 y1 by rw [hy1]; exact below_new _ _)
          have NE := Lib.hid (show bx = v1.heap.size ∧ y1.heap.size = bx + 1 by rw [hy1, hbx]; exact ⟨rfl, by simp⟩)
          have MQ := Lib.hid (MQ.out.below NX.out (by have := UQ.out; omega))
          have UQ := Lib.hid (show wf.heap.size ≤ uq ∧ uq < y1.heap.size ∧ uq ≠ bx by have := UQ.out; have := NE.out; omega)
          clear hy1 hbx NX
          refine hK0.out _ _ (QS.out _ (RB.out.trans ((BY1.out).mono RB.out.size))) (fun hHeld => ?_)
          clear hK0 K0
          try simp only [Act.put, List.getElem_toArray, List.getElem_cons_succ, List.getElem_cons_zero, List.setIfInBounds_toArray, List.set_cons_zero, List.set_cons_succ]
          refine wpAnyH_ready (rs := [3]) (by kernel_rfl) (by simp) ?_
          refine AllReadyH.cons (o := _) rfl (fun K0 hK0 => ?_) AllReadyH.nil
          go_simp
          refine (TL.out _ (RB.out.trans ((BY1.out).mono RB.out.size))).mono ?_
          rintro e9 v2 ⟨ul, rfl, hu, hm, hb⟩
          go_wp2_with fail
          have BV2 := Lib.hid ((BY1.out).trans (hb.mono (BY1.out).size))
          have ML := Lib.hid hm
          have UL := Lib.hid (show ul < v2.heap.size from hu.2)
          have MQ := Lib.hid (MQ.out.below hb (by have := UQ.out; omega))
          have UQ := Lib.hid (show wf.heap.size ≤ uq ∧ uq < v2.heap.size ∧ uq ≠ bx by have := UQ.out; have := hb.size; omega)
          have ZB := Lib.hid ((hb.block bx (Array.getElem?_eq_some_iff.1 ZB.out).1).trans ZB.out)
          clear hu hm hb
          refine hK0.out _ _ (QS.out _ (RB.out.trans ((BV2.out).mono RB.out.size))) (fun hHeld => ?_)
          clear hK0 K0
          try simp only [Act.put, List.getElem_toArray, List.getElem_cons_succ, List.getElem_cons_zero, List.setIfInBounds_toArray, List.set_cons_zero, List.set_cons_succ]
          refine wpAnyH_ready (rs := [4]) (by kernel_rfl) (by simp) ?_
          refine AllReadyH.cons (o := _) rfl (fun K0 hK0 => ?_) AllReadyH.nil
          go_simp
          refine (IP.out _ _ _ (RB.out.trans ((BV2.out).mono RB.out.size)) MQ.out ML.out).mono ?_
          rintro e9 v3 ⟨A', c', B', d', rfl, ho, ho2, hap, hb⟩
          go_wp2_with fail
          have BV3 := Lib.hid ((BV2.out).trans (hb.mono (BV2.out).size))
          obtain ⟨s0, hs0⟩ : ∃ s, s = v2.heap.size := ⟨_, rfl⟩
          rw [← hs0] at ho ho2
          have OA := Lib.hid ho
          have OB := Lib.hid ho2
          have SS := Lib.hid (show uq < s0 ∧ s0 ≤ v3.heap.size by have := UQ.out; have := hb.size; omega)
          have UQ := Lib.hid (show wf.heap.size ≤ uq ∧ uq < v3.heap.size ∧ uq ≠ bx by have := UQ.out; have := hb.size; omega)
          have ML := Lib.hid (ML.out.below hb UL.out)
          have UL := Lib.hid (show ul < v3.heap.size by have := UL.out; have := hb.size; omega)
          have MQ := Lib.hid (MQ.out.below hb (by have := SS.out; omega))
          have ZB := Lib.hid ((hb.block bx (Array.getElem?_eq_some_iff.1 ZB.out).1).trans ZB.out)
          clear ho ho2 hap hb hs0
          refine hK0.out _ _ (QS.out _ (RB.out.trans ((BV3.out).mono RB.out.size))) (fun hHeld => ?_)
          clear hK0 K0
          try simp only [Act.put, List.getElem_toArray, List.getElem_cons_succ, List.getElem_cons_zero, List.setIfInBounds_toArray, List.set_cons_zero, List.set_cons_succ]
          refine wpAnyH_ready (rs := [6]) (by kernel_rfl) (by simp) ?_
          refine AllReadyH.cons (o := _) rfl (fun K0 hK0 => ?_) AllReadyH.nil
          clear hHeld
          rw [if_pos (by rfl)]
          refine wp_store_row 30 _ _ rfl (bx) _ rfl rfl 30 _ ZB.out (by kernel_rfl) rfl (by simp [Value.oneCell']) ?_
          refine hK0.out _ _ (QS.out _ (RB.out.trans (((below_setRow (BV3.out) ZL.out _)).mono RB.out.size))) (fun hHeld => ?_)
          clear hK0 K0
          try simp only [Act.put, List.getElem_toArray, List.getElem_cons_succ, List.getElem_cons_zero, List.setIfInBounds_toArray, List.set_cons_zero, List.set_cons_succ]
          refine wpAnyH_done (by kernel_rfl) ?_ _
          go_wp2_with fail
          go_meet
          case rel => exact ⟨bx, uq, s0, A', c', B', d', rfl, setRow_heap _ _ _ _ _ _ ZB.out, ⟨ZL.out, lt_row6 ZB.out, by have := UQ.out; omega, UQ.out.1, SS.out.1, le_row6 SS.out.2⟩, OR.rowOther6 OA.out ZB.out (by decide) _, OR.rowOther6 OB.out ZB.out (by decide) _, below_setRow (BV3.out) ZL.out _⟩
      · go_simp
        obtain ⟨y0, hy0⟩ : ∃ y, y = v0.alloc (.cells #[.int .i64 0, .bool false, .int .i64 0, .int .i64 0, .slice none 0 0, .slice none 0 0] 30) := ⟨_, rfl⟩
        obtain ⟨bx, hbx⟩ : ∃ b, b = v0.heap.size := ⟨_, rfl⟩
        rw [← hy0, ← hbx]
        have ZB := Lib.hid (show y0.heap[bx]? = some (.cells #[.int .i64 0, .bool false, .int .i64 0, .int .i64 0, .slice none 0 0, .slice none 0 0] 30 (0, 0)) by rw [hy0, hbx]; exact heap_alloc_new _ _)
        have ZL := Lib.hid (show wf.heap.size ≤ bx by rw [hbx]; exact (BL0.out).size)
        have BY0 := Lib.hid (show Below wf.heap.size wf y0 by rw [hy0]; exact (BL0.out).alloc (BL0.out).size _)
        have NX := Lib.hid (show Below v0.heap.size v0 y0 by rw [hy0]; exact below_new _ _)
        have NE := Lib.hid (show bx = v0.heap.size ∧ y0.heap.size = bx + 1 by rw [hy0, hbx]; exact ⟨rfl, by simp⟩)
        clear hy0 hbx NX
        refine hK0.out _ _ (QS.out _ (RB.out.trans ((BY0.out).mono RB.out.size))) (fun hHeld => ?_)
        clear hK0 K0
        try simp only [Act.put, List.getElem_toArray, List.getElem_cons_succ, List.getElem_cons_zero, List.setIfInBounds_toArray, List.set_cons_zero, List.set_cons_succ]
        refine wpAnyH_ready (rs := [1]) (by kernel_rfl) (by simp) ?_
        refine AllReadyH.cons (o := _) rfl (fun K0 hK0 => ?_) AllReadyH.nil
        go_simp
        refine (TQ.out _ (RB.out.trans ((BY0.out).mono RB.out.size))).mono ?_
        rintro e9 v1 ⟨uq, rfl, hu, hm, hb⟩
        go_wp2_with fail
        have BV1 := Lib.hid ((BY0.out).trans (hb.mono (BY0.out).size))
        have MQ := Lib.hid hm
        have UQ := Lib.hid (show wf.heap.size ≤ uq ∧ uq < v1.heap.size ∧ uq ≠ bx by have := (BY0.out).size; have := NE.out; omega)
        have ZB := Lib.hid ((hb.block bx (Array.getElem?_eq_some_iff.1 ZB.out).1).trans ZB.out)
        clear hu hm hb
        refine hK0.out _ _ (QS.out _ (RB.out.trans ((BV1.out).mono RB.out.size))) (fun hHeld => ?_)
        clear hK0 K0
        try simp only [Act.put, List.getElem_toArray, List.getElem_cons_succ, List.getElem_cons_zero, List.setIfInBounds_toArray, List.set_cons_zero, List.set_cons_succ]
        refine wpAnyH_ready (rs := [3]) (by kernel_rfl) (by simp) ?_
        refine AllReadyH.cons (o := _) rfl (fun K0 hK0 => ?_) AllReadyH.nil
        go_simp
        refine (TL.out _ (RB.out.trans ((BV1.out).mono RB.out.size))).mono ?_
        rintro e9 v2 ⟨ul, rfl, hu, hm, hb⟩
        go_wp2_with fail
        have BV2 := Lib.hid ((BV1.out).trans (hb.mono (BV1.out).size))
        have ML := Lib.hid hm
        have UL := Lib.hid (show ul < v2.heap.size from hu.2)
        have MQ := Lib.hid (MQ.out.below hb (by have := UQ.out; omega))
        have UQ := Lib.hid (show wf.heap.size ≤ uq ∧ uq < v2.heap.size ∧ uq ≠ bx by have := UQ.out; have := hb.size; omega)
        have ZB := Lib.hid ((hb.block bx (Array.getElem?_eq_some_iff.1 ZB.out).1).trans ZB.out)
        clear hu hm hb
        refine hK0.out _ _ (QS.out _ (RB.out.trans ((BV2.out).mono RB.out.size))) (fun hHeld => ?_)
        clear hK0 K0
        try simp only [Act.put, List.getElem_toArray, List.getElem_cons_succ, List.getElem_cons_zero, List.setIfInBounds_toArray, List.set_cons_zero, List.set_cons_succ]
        refine wpAnyH_ready (rs := [4]) (by kernel_rfl) (by simp) ?_
        refine AllReadyH.cons (o := _) rfl (fun K0 hK0 => ?_) AllReadyH.nil
        go_simp
        refine (IP.out _ _ _ (RB.out.trans ((BV2.out).mono RB.out.size)) MQ.out ML.out).mono ?_
        rintro e9 v3 ⟨A', c', B', d', rfl, ho, ho2, hap, hb⟩
        go_wp2_with fail
        have BV3 := Lib.hid ((BV2.out).trans (hb.mono (BV2.out).size))
        obtain ⟨s0, hs0⟩ : ∃ s, s = v2.heap.size := ⟨_, rfl⟩
        rw [← hs0] at ho ho2
        have OA := Lib.hid ho
        have OB := Lib.hid ho2
        have SS := Lib.hid (show uq < s0 ∧ s0 ≤ v3.heap.size by have := UQ.out; have := hb.size; omega)
        have UQ := Lib.hid (show wf.heap.size ≤ uq ∧ uq < v3.heap.size ∧ uq ≠ bx by have := UQ.out; have := hb.size; omega)
        have ML := Lib.hid (ML.out.below hb UL.out)
        have UL := Lib.hid (show ul < v3.heap.size by have := UL.out; have := hb.size; omega)
        have MQ := Lib.hid (MQ.out.below hb (by have := SS.out; omega))
        have ZB := Lib.hid ((hb.block bx (Array.getElem?_eq_some_iff.1 ZB.out).1).trans ZB.out)
        clear ho ho2 hap hb hs0
        refine hK0.out _ _ (QS.out _ (RB.out.trans ((BV3.out).mono RB.out.size))) (fun hHeld => ?_)
        clear hK0 K0
        try simp only [Act.put, List.getElem_toArray, List.getElem_cons_succ, List.getElem_cons_zero, List.setIfInBounds_toArray, List.set_cons_zero, List.set_cons_succ]
        refine wpAnyH_ready (rs := [6]) (by kernel_rfl) (by simp) ?_
        refine AllReadyH.cons (o := _) rfl (fun K0 hK0 => ?_) AllReadyH.nil
        clear hHeld
        rw [if_pos (by rfl)]
        refine wp_store_row 30 _ _ rfl (bx) _ rfl rfl 30 _ ZB.out (by kernel_rfl) rfl (by simp [Value.oneCell']) ?_
        refine hK0.out _ _ (QS.out _ (RB.out.trans (((below_setRow (BV3.out) ZL.out _)).mono RB.out.size))) (fun hHeld => ?_)
        clear hK0 K0
        try simp only [Act.put, List.getElem_toArray, List.getElem_cons_succ, List.getElem_cons_zero, List.setIfInBounds_toArray, List.set_cons_zero, List.set_cons_succ]
        refine wpAnyH_done (by kernel_rfl) ?_ _
        go_wp2_with fail
        go_meet
        case rel => exact ⟨bx, uq, s0, A', c', B', d', rfl, setRow_heap _ _ _ _ _ _ ZB.out, ⟨ZL.out, lt_row6 ZB.out, by have := UQ.out; omega, UQ.out.1, SS.out.1, le_row6 SS.out.2⟩, OR.rowOther6 OA.out ZB.out (by decide) _, OR.rowOther6 OB.out ZB.out (by decide) _, below_setRow (BV3.out) ZL.out _⟩
    case rest => as_aux_lemma =>
      obtain ⟨wi, hwi⟩ : ∃ wi, wi = wc := ⟨_, rfl⟩
      subst hwi
      obtain ⟨b13, u9, s9, Ah, ch, Bh, dh, rfl, XI, hz13, hoh, hoj, hb13⟩ := hcut
      have KI := Lib.hid (KF.out.then_below hb13)
      have BI := Lib.hid (BF.out.trans (hb13.mono BF.out.size))
      have SI : Hid (Sl wi 0 wi.heap.size Ah m (fun k => .int .i64 (gi ys k))) := by have := OR.sl0 hoh; rw [Nat.mul_one] at this; exact this.wide (Nat.zero_le _) (Nat.le_refl _)
      have SK : Hid (Sl wi 0 wi.heap.size Bh m2 (fun k => .int .i64 (gi zs k))) := by have := OR.sl0 hoj; rw [Nat.mul_one] at this; exact this.wide (Nat.zero_le _) (Nat.le_refl _)
      have SZI := Lib.hid (show w9.heap.size ≤ wi.heap.size by have := ZF.out; have := hb13.size; omega)
      have z0 := cell_of_row wi _ 0 _ _ _ XI; have z1 := cell_of_row wi _ 1 _ _ _ XI; have z2 := cell_of_row wi _ 2 _ _ _ XI; have z3 := cell_of_row wi _ 3 _ _ _ XI; have z4 := cell_of_row wi _ 4 _ _ _ XI; have z5 := cell_of_row wi _ 5 _ _ _ XI
      simp at z0 z1 z2 z3 z4 z5
      clear hoh hoj hb13 hz13 XI q0 q1
      obtain ⟨⟨q0, q1⟩, ⟨p0, p1, p2, p3, p4, p5⟩, ⟨x0, x1⟩, ⟨y0, y1, y2, y3, y4, y5⟩, sw, sv⟩ := QK.out wi KI.out
      go_wp2_with fail
      refine (eqLR_own Ah Aw Bh Bw m m2 ch cw dh dw rq rn ro rg ys zs _ SMm.out.1 SMm.out.2 SI.out (sw.wide (Nat.zero_le _) (by have := W3.out; have := SZI.out; omega)) SK.out (sv.wide (Nat.zero_le _) (by have := W3.out; have := SZI.out; omega))).mono ?_
      rintro e9 wj ⟨rfl, hb⟩
      have BJ := Lib.hid (BI.out.trans (hb.mono BI.out.size))
      have KJ := Lib.hid (KI.out.then_below hb)
      clear hb q0 q1 p0 p1 p2 p3 p4 p5 x0 x1 y0 y1 y2 y3 y4 y5 sw sv z0 z1 z2 z3 z4 z5
      obtain ⟨⟨q0, q1⟩, ⟨p0, p1, p2, p3, p4, p5⟩, ⟨x0, x1⟩, ⟨y0, y1, y2, y3, y4, y5⟩, sw, sv⟩ := QK.out wj KJ.out
      go_wp2_with fail
      refine (HE.out _ BJ.out).mono ?_
      rintro e9 wk ⟨rfl, hb⟩
      have FR := Lib.hid (FIN.out _ (FK.out _ (Kept.trans KE.out (Kept.of_below hb [uz, u, g, g2]))))
      clear hb q0 q1 p0 p1 p2 p3 p4 p5 x0 x1 y0 y1 y2 y3 y4 y5 sw sv
      go_wp2
      go_ret
      exact ⟨rfl, FR.out⟩

end Go.Proofs.YtfgllhomnmacfaaDoor
